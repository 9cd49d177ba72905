import Derived.Test.YtdloolggnjjfoaaGreatDoorK7
import Derived.Test.YtdloolggnjjfoaaGreatDoorK8
import Derived.Test.YtdloolggnjjfoaaGreatDoorK4
import Derived.StillTailTactics
open Array renaming size->U
open Bool renaming false->dF,true->dY
open Decidable renaming decide->dD
open Go renaming Calls->dQ,Value->dV,World->G
open Go.Ending renaming returned->dR
open Go.Obj renaming cells->dO
open Go.Proofs.Tryz renaming prog->dG
open Go.RowKit renaming Hid->O
open Go.Value renaming I->dI,T->dK,S->dS,tuple->dT,U->dU
open Go.World renaming cell?->I
open List renaming length->J
open Option renaming none->dN,some->Y
namespace Go.Proofs.YtdloolggnjjfoaaGreatDoor
set_option maxHeartbeats 12800000
set_option linter.all false
set_option maxRecDepth 100000
open Go.ChangeShapes Go.WideShapes Go.ChangeAt Go.RowKit Go.Maps Go.Proofs.Tryz
structure rF(ss:List aB):Prop where
 pw:ss.Pairwise (λs s'=>s.1<s'.1)
 rg:∀s∈ss,0<=s.1/\s.1<2^64
 ql:∀s∈ss,J s.2.2<=8
variable {q xs es:List Ev}{ev:Ev}{ss ss':List aB}{i b bs bn B z g hh uu k n c m np cp nv cv j gN:Nat}{s:aB}{l P V:LI}{w0 w w' w1 w2:G}{D:SD}{nd nd':ar}{v o0 o1 o2 o3 o4 o5 pt o6 o7 v0 v1 v2 v3 v4 v5 v6 v7:dV}{L L':iN}{d:DataW Unit}{ns ns':List ar}{cs:iA}{ty:TypeId}{ops:iQ}{o:Oper}{a:Act}{ls:List LI}{rp Qs vs:List dV}{r:Ending}{x e t K S F E iG kd C:Int}{p pp pq pv:OA}{R:Ending->G->Prop}{fn:Func}{A A2:List Lf}{Ls:List (List Lf)}{f:ar->ar}{left:Lit->Bool}{rs:List R1}
def dt3(h:J q<=8):J (tS q ev)<=8:=by
 unfold tS;split;{simp;omega};{split;{simp;omega};{exact h}}
def cu6(ss:List aB)(id:Int)(ev:Ev):(Ed ss id ev).map (·.1)=ss.map (·.1):=by
 unfold Ed;rw[uB];refine Px λs _=>?_;simp only[Function.comp];split<;>rfl
def rF.cu8(h:rF ss)(id:Int)(ev:Ev):rF (Ed ss id ev):=by
 refine⟨?_,λs m=>?_,λs m=>?_⟩;{have:=h.pw;rw[<-AH (f:=λs:aB=>s.1) (R:=(·<·))]at this⊢;rw[cu6];exact this};{obtain⟨i,j,rfl⟩:=fe.1 m;split<;>exact h.rg i j}
 {obtain⟨i,j,rfl⟩:=fe.1 m;split;{exact dt3 (h.ql i j)};{exact h.ql i j}}
theorem cu7(h:ss.Pairwise (λs o=>s.1<o.1))(q:ss[i]?=Y s)(ev:Ev):Ed ss s.1 ev=ss.set i (s.1,s.2.1,tS s.2.2 ev):=by
 refine Uk λj=>?_;unfold Ed;rw[qn,uE];by_cases r:i=j;{subst r;rw[aM rfl,aM (bg.1 q).1,q];simp};{
 rw[aL r];cases hj:ss[j]? with
 |none=>rfl
 |some o=>
  have E:¬o.1=s.1:=λe=>by have y:=Fq.1 h;let⟨D,x⟩:=bg.1 q;let⟨B,u⟩:=bg.1 hj;obtain m|m|m:=Mh i j;{have:=y i j D B m;rw[x,u]at this;omega};{exact r m};{have:=y j i B D m;rw[x,u]at this;omega}
  simp[E]}
theorem Wk(ids:LI)(ev:Ev):∀ss:List aB,(we ss ids ev).map (·.1)=ss.map (·.1):=by
 unfold we
 induction ids with
 |nil=>intro ss;rfl
 |cons a r ih=>intro ss;rw[JR,ih,cu6]
def eC1(w:G)(u:aC l)(x:Mg (J l)):∃i r W,(convert 9 22 (.string (aZ l))).run dG w=.ok (.S i (J l) r) W/\TB W (.S i (J l) r) l/\Bw w W:=by
 have q:=Lib.run_convert_string_bytes (P:=dG) w 9 22 5 (aZ l) underlying9 underlying22 underlying5;rw[Da]at q;refine⟨_,_,_,q,⟨⟨_,_,rfl,.R ⟨U w.heap,0,rfl,λj m=>?_⟩⟩,λb o=>.R ?_,_,_,_,rfl,am2 _ _ _ _,am1 _ _ _ _ jC⟩,⟨rfl,rfl,rfl,by rw[Lib.bytesWorld_size];omega,λk s=>Lib.bytesWorld_at_old _ _ _ _ s⟩⟩;{rw[mO,Lib.bytesWorld_cell _ _ _ _ (Da▸m),cG4 u m]};{simp only[Value.ownBlock,mn]at o;subst o;exact⟨_,_,Lib.bytesWorld_at_new w 5 (aZ l)⟩}
def PS.look{SB NB HB UB:iN}(h:PS w0 w b bs bn D SB NB HB UB)(j:D.E[i]?=s)(hr:0<=s.1/\s.1<2^64):∃g,SB[i]?=Y g/\PE w0 w g s/\(Instr.lookup 178 (.map bs) (.U s.1) dF).run dG w=.ok (Pz g) w:=by
 let⟨g,q,r⟩:=h.sat j;obtain⟨M,n,o,-,m,-⟩:=h.tJ;exact⟨g,q,r,cc5 o m (bu (i:=i) (by rw[qL,j,q])) hr⟩
def PS.XC{SB NB HB UB:iN}(h:PS w0 w b bs bn D SB NB HB UB)(j:D.N[i]?=nd)(u:J nd.A<=1048576):∃g hh uu,NB[i]?=Y g/\HB[i]?=Y hh/\UB[i]?=Y uu/\PN w0 w g hh uu nd/\(Instr.lookup 179 (.map bn) (.string (aZ nd.A)) dF).run dG w=.ok (Pz g) w:=by
 let⟨g,hh,uu,q,s,r,x⟩:=h.nat j;obtain⟨M,n,o,-,m,-⟩:=h.pX;exact⟨g,hh,uu,q,s,r,x,cc6 o m (bu (i:=i) (by rw[qL,j,q])) u⟩
def PN.cells{g h u:Nat}(k:PN w0 w g h u nd):∃V,AB w0 w V nd.V/\w.heap[g]?=dO #[V,.U nd.D,.I nd.M,.map h,.U nd.P,.U nd.F,.map u] 186/\I w (Ad g 0)=Y V/\I w (Ad g 1)=dU nd.D/\I w (Ad g 2)=dI nd.M/\I w (Ad g 3)=Y (.map h)/\I w (Ad g 4)=dU nd.P/\I w (Ad g 5)=dU nd.F/\I w (Ad g 6)=Y (.map u)/\∀o,w.frozen? (Ad g o)=dF:=by
 let⟨V,i,j⟩:=k.blk;exact⟨V,j,i,cK i 0,cK i 1,cK i 2,cK i 3,cK i 4,cK i 5,cK i 6,λo=>by simp[World.frozen?,i]⟩
def PS.nJ{SB NB HB UB:iN}(h:PS w0 w b bs bn D SB NB HB UB):I w (Ad b 0)=dU D.e/\I w (Ad b 1)=dU D.g/\I w (Ad b 2)=dU D.x/\I w (Ad b 3)=dI D.t/\I w (Ad b 4)=Y (.map bs)/\I w (Ad b 5)=Y (.map bn)/\∀o,w.frozen? (Ad b o)=dF:=
 ⟨cK h.hd 0,cK h.hd 1,cK h.hd 2,cK h.hd 3,cK h.hd 4,cK h.hd 5,λo=>by simp[World.frozen?,h.hd]⟩
structure NT(ss:List aB)(nd:ar):Prop where
 Vq:aC nd.A
 pl:J nd.A<=1048576
 Oo:nd.X.Pairwise (·<·)
 Oq:J nd.X<=1048576
 Te:∀i∈nd.X,∃s∈ss,s.1=i
def bZ8(h:ss'.map (·.1)=ss.map (·.1)){i:Int}(u:∃s∈ss,s.1=i):∃(j:Nat)(s:aB),ss'[j]?=Y s/\s.1=i:=by
 obtain⟨s,q,rfl⟩:=u;have:s.1∈ss'.map (·.1):=by rw[h];exact fe.2 ⟨s,q,rfl⟩
 let⟨m,o,e⟩:=fe.1 this;let⟨j,r⟩:=jk.1 o;exact⟨j,m,r,e⟩
def dJ7{ss:LI}(h:Q.Aq B w v ss):∃p c gk,v=.S p (J ss) c/\B<=gk/\∀(j:Nat)(x:Int),ss[j]?=Y x->p=(Ad gk 0)/\gk<U w.heap/\I w (Ad gk j)=dU x:=by
 obtain⟨rfl,rfl⟩|⟨g,m,rfl,q,s,o⟩:=h;{exact⟨dN,0,B,rfl,eG _,λj x i=>by simp at i⟩};{refine⟨_,m,g,rfl,q,λj x i=>⟨rfl,s,?_⟩⟩;have:=o j (by simpa using(bg.1 i).1);have r:=this.1;simpa[i]using r}
def One.DA(r:Bw w0 w)(i:w.grownBy w' z)(j:U w0.heap<=z)(hm:∃es c,w.heap[z]?=Y (.map es c)):One w0 w w' z:=by
 refine⟨(aR (U w0.heap) w).grown i r.size (λb e=>by cases e;exact j),λy o s=>i.block y o (λe=>s (by cases e;rfl)),λq u m hc=>?_⟩;obtain⟨es,c,hm⟩:=hm;rw[hm]at hc;cases hc
variable {s:LI}
def PS.yE{SB NB HB UB:iN}(h:PS w0 w b bs bn D SB NB HB UB)(hi:D.N[i]?=nd)(hg:NB[i]?=g)(iS:HB[i]?=hh)(iV:UB[i]?=uu)(iO:One w0 w w' uu)(hs:SM w' uu s):PS w0 w' b bs bn {D with N:=D.N.set i {nd with X:=s}} SB NB HB UB:=by
 let⟨lo,⟨V,q1,q2⟩,q3,q4⟩:=h.qK i nd g hh uu hi hg iS iV;let⟨es,c,m4⟩:=q4.at;refine h.aJ0 hi hg iS iV (.R (.R rfl)) iO rfl ⟨lo,⟨V,iO.obj q1 (λe=>?_),q2.T iO.T⟩,q3.W iO (h.hu.2.2.2.2.2 _ (bu iS) _ (bu iV)),hs⟩;rw[e,m4]at q1;cases q1
def PS.AV{SB NB HB UB:iN}(h:PS w0 w b bs bn D SB NB HB UB)(hi:D.N[i]?=nd)(hg:NB[i]?=g)(iS:HB[i]?=hh)(iV:UB[i]?=uu)(iO:One w0 w w' hh)(hs:SM w' hh s):PS w0 w' b bs bn {D with N:=D.N.set i {nd with y:=s}} SB NB HB UB:=by
 let⟨lo,⟨V,q1,q2⟩,q3,q4⟩:=h.qK i nd g hh uu hi hg iS iV;let⟨es,c,m3⟩:=q3.at;refine h.aJ0 hi hg iS iV (.R (.L rfl)) iO rfl ⟨lo,⟨V,iO.obj q1 (λe=>?_),q2.T iO.T⟩,hs,q4.W iO (λe=>h.hu.2.2.2.2.2 _ (bu iS) _ (bu iV) e.C)⟩;rw[e,m3]at q1;cases q1
abbrev T3:List TypeId:=[97,186,181]
def PL(b bs bn:Nat)(SB NB HB UB:iN):iN:=b::bs::bn::(SB++(NB++(HB++UB)))
def Kb(L:iN)(w w':G):Prop:=∀z,z<U w.heap->z∉L->w'.heap[z]?=w.heap[z]?
def Kb.H(h:Bw w w'):Kb L w w':=λz i _=>h.block z i
def Kb.Z(h:Kb L w w1)(m:Kb L w1 w2)(o:U w.heap<=U w1.heap):Kb L w w2:=λz j i=>(m z (by omega) i).Z (h z j i)
def Kb.h(h:Kb L w w')(j:∀z∈L,z∈L'):Kb L' w w':=λz i m=>h z i (λhm=>m (j z hm))
def One.kb(i:One w0 w w' g)(o:g∈L):Kb L w w':=λz j m=>i.k z j (λe=>m (e▸o))
def aK0{SB NB HB UB:iN}(h:O (PS w0 w b bs bn D SB NB HB UB))(nd:ar)(hk:O (D.N[k]?=nd))(kd:Int)(hS:O (rF D.E))(E:O (NT D.E nd)):dQ dG 344 #[Pz b,.I kd,.string (aZ nd.A)] w λr w'=>PS w0 w' b bs bn (jV D k kd) SB NB HB UB/\(Fr T3 w w'/\Kb (PL b bs bn SB NB HB UB) w w')/\∃v,r=dR v:=by
 let⟨g,hh,uu,hg,iS,iV,hN,hlk⟩:=h.XC hk E.pl;obtain⟨V,-,-,-,-,-,-,-,-,n6,-⟩:=hN.cells;obtain⟨-,-,-,-,-,h5,-⟩:=h.nJ;let⟨M,nn,oM,hnn,sM,zM⟩:=hN.yE;have y:=du hg iS iV;have MA:g<U w.heap:=by obtain⟨V,hb,-⟩:=hN.blk;exact gy hb
 go_in;go_wp2_with fail;refine(Q.aM5 uu nn M w oM (zM▸E.Oq)).h ?_;rintro r w1⟨v,ws,rfl,hA,hK,au⟩;have ews:ws=nd.X:=aC5 hA.lt E.Oo λx=>by rw[hA.mem x,sM];simp
 subst ews;obtain⟨p,c,gk,rfl,hgk,fh⟩:=dJ7 hK;let⟨m,em⟩:=cG (J nd.X);rw[ae em];have Jp:=ag fh;have P1:=ag (h.H au);have F1:=ag (Fr.H (T:=T3) au);have K1:=ag (Kb.H (L:=PL b bs bn SB NB HB UB) au);have z1:=au.size;have hm:m<=1048576:=ae em▸E.Oq;go_wp2
 go_loopw[21](λiv wr=>∃(j:Nat)(SS:List aB),j<=m/\iv=.I j/\O (we D.E (nd.X.take j) (kd,nd.A)=SS)/\O (PS w0 wr b bs bn {D with E:=SS} SB NB HB UB)/\O (rF SS)/\O (Fr T3 w wr)/\O (wr.heap[gk]?=w1.heap[gk]?)/\O (U w1.heap<=U wr.heap)/\O (Kb (PL b bs bn SB NB HB UB) w wr)) (λiv _=>m-(intOf iv).toNat)
 exact⟨0,D.E,cO _,rfl,cM,P1,hS,F1,cM,eG _,K1⟩;{
 obtain⟨j,SS,hj,rfl,N,S,Y6,Zj,hGK,vN,hKB⟩:=hrel;obtain⟨-,-,-,-,h4,h5,-⟩:=S.nJ;by_cases aH:j<m;{
 have cL:=bM j m;obtain⟨x,hx⟩:∃x,nd.X[j]?=Y x:=⟨_,bD (ae em▸aH)⟩;obtain⟨rfl,ft2,Ko⟩:=ae Jp j x hx;have ft6:=(gj hGK j).Z Ko;obtain⟨i,s,hi,rfl⟩:=bZ8 (ss':=SS) (ae N▸Wk _ _ _) (E.Te x (bu hx));let⟨gs,rR,hE,UE⟩:=S.look hi (Y6.rg s (bu hi));let⟨pc,cc,W,hcv,hTB,Qy⟩:=eC1 wr E.Vq E.pl;have ft0:gs<U w.heap:=by obtain⟨s0,zt⟩:∃s0,D.E[i]?=Y s0:=⟨_,bD (h.ur▸(bg.1 rR).1)⟩;obtain⟨-,u,hc,-⟩:=h.vz i s0 gs zt rR;exact gy hc
 have hSn:=bL0 (ss:=D.E) (ev:=(kd,nd.A)) hx;rw[ae N,cu7 Y6.pw hi]at hSn;have Sg:=ag hSn;have PW:=ag (S.H Qy);have SO2:=Y6.cu8 s.1 (kd,nd.A);rw[cu7 Y6.pw hi]at SO2;have eX5:=ag SO2;have Z:=bG hi rR;have HTB:=ag hTB;have ql:=Y6.ql s (bu hi);have X:=ag Qy;go_wp2_with fail;refine(ei6 (w0:=w0) W gs s kd nd.A pc _ cc PW.be (PW.vz i s gs Z.1 Z.2) (.R HTB) HTB.2.2 af).h ?_;rintro r w5⟨O5,E5,v5,rfl⟩;have P5:=ag (PS.Ay (s':=(s.1,s.2.1,tS s.2.2 (kd,nd.A))) PW Z.1 Z.2 O5 rfl E5);have G5:=ag (((O5.k gk (by have:=X.size;have:=ae vN;omega) af).Z (X.block gk (aK (ae vN)))).Z hGK);have Z5:=ag (by have:=O5.b.size;have:=X.size;have:=ae vN;omega:U w1.heap<=U w5.heap);have F5:=ag ((Zj.Z (Fr.H (T:=T3) X)).Z O5.T);have K5:=ag ((hKB.Z (Kb.H X) Zj.1).Z (O5.kb (by simp[PL,bu Z.2])) (by have:=X.size;have:=Zj.1;omega));go_wp2;go_roundw;exact⟨j+1,_,af,by go_num,Sg,P5,eX5,F5,G5,Z5,K5⟩;exact cW};{have cL:=fq j m;have e1:=ae N;rw[lY (by rw[ae em];omega)]at e1;have R:=S.qK k nd g hh uu hk y.1 y.2.1 y.2.2;obtain⟨V,-,-,-,-,-,-,-,-,n6,-⟩:=R.cells;obtain⟨M5,n5,o5,-,-,-⟩:=R.yE;let⟨vv,w5,fS,te,l9,hs5⟩:=bQ8 underlying158 o5 0;have HN5:=ag R;have HO5:=du te l9 hs5;have H5:=ag o5;go_wp2;go_end0;have iO:=One.DA S.be HO5.2.1 HN5.lo.2.2 (ownsMap_at H5);have hQ:=PS.yE (s:=[]) S hk y.1 y.2.1 y.2.2 iO ⟨_,0,HO5.1,af,jL.nil,rfl⟩;refine⟨?_,⟨Zj.Z iO.T,hKB.Z (iO.kb (by simp[PL,bu y.2.2])) Zj.1⟩,_,rfl⟩;unfold jV;rw[ae hk];simp only[e1];exact hQ}}
def db7{SB NB HB UB:iN}(h:O (PS w0 w b bs bn D SB NB HB UB))(nd:ar)(i:O (D.N[k]?=nd))(kd:Int)(m:O (rF D.E))(j:O (NT D.E nd)):Cp 344 #[Pz b,.I kd,.string (aZ nd.A)] w λr w'=>PS w0 w' b bs bn (jV D k kd) SB NB HB UB/\Fr T3 w w'/\∃v,r=dR v:=(aK0 h nd i kd m j).h λr w'⟨s,q,o⟩=>⟨s,q.1,o⟩
variable {D:DataW Unit}
def jL.has(h:jL D s)(id:Int):Maps.has D (.U id)=s.contains id:=by
 rw[Po,h];simp
def Hg{id x:Int}:x∈jF s id↔x∈s/\x≠id:=by
 unfold jF;simp
def Td{id:Int}(h:s.Pairwise (·<·)):(jF s id).Pairwise (·<·):=h.filter _
theorem Tf:∀{s:LI}{id x:Int},x∈mh s id↔x=id\/x∈s
 |[],id,x=>by simp[mh]
 |y::r,id,x=>by
  unfold mh;split;{rw[fU,Hg];by_cases e:x=id<;>simp[e]}
  {rw[fU,Tf,fU];constructor;{rintro(h|h|h);{exact .R (.L h)};{exact .L h};{exact .R (.R h)}};{rintro(h|h|h);{exact .R (.L h)};{exact .L h};{exact .R (.R h)}}}
theorem aH9:∀{s:LI}{id:Int},s.Pairwise (·<·)->(mh s id).Pairwise (·<·)
 |[],id,_=>by simp[mh]
 |y::r,id,h=>by unfold mh;let⟨m,o⟩:=Ie.1 h;split;{rename_i hle;refine Ie.2 ⟨λz i=>?_,Td h⟩;let⟨j,q⟩:=Hg.1 i;obtain rfl|j:=fU.1 j;{omega};{have:=m z j;omega}};{rename_i hle;refine Ie.2 ⟨λz i=>?_,aH9 o⟩;obtain rfl|i:=Tf.1 i;{omega};{exact m z i}}
def SM.del{w w':G}{h n:Nat}{id:Int}(m:jL D s)(q:s.Pairwise (·<·))(r:n<=2097152)(o:w'.ownsMap dG 27 unitElem h n (D.del (.U id))):SM w' h (jF s id):=by
 refine SM.of o r (λk=>?_) (WN (Td q));by_cases e:k=.U id;{subst e;rw[has_del_same];constructor;{intro u;cases u};{rintro⟨i,j,e⟩;simp at e;exact absurd e.C (Hg.1 j).2}};{rw[has_del_other e,m k];constructor;{rintro⟨i,j,rfl⟩;exact⟨i,Hg.2 ⟨j,λx=>e (by rw[x])⟩,rfl⟩};{rintro⟨i,j,rfl⟩;exact⟨i,(Hg.1 j).1,rfl⟩}}
def SM.put{w w':G}{h n:Nat}{id:Int}(m:jL D s)(u:IsMap D)(q:s.Pairwise (·<·))(r:n<=2097152)(o:w'.ownsMap dG 27 unitElem h n (D.put (.U id) d)):SM w' h (mh s id):=by
 refine SM.of o r (λk=>?_) (WN (aH9 q));rw[(jL.put m u id d) k];constructor;{rintro⟨i,j,rfl⟩;exact⟨i,Tf.2 (by simp at j;exact j.symm),rfl⟩};{rintro⟨i,j,rfl⟩;exact⟨i,by have:=Tf.1 j;simp;exact this.symm,rfl⟩}
theorem Kl(m:O (PN w0 w g hh uu nd)){id:Int}(j:0<=id/\id<2^64){B:Bool}(u:O (nd.y.contains id=B)):dQ dG 341 #[Pz g,.U id] w (Rb (.bool B) w):=by
 obtain⟨V,-,-,-,-,-,x,-⟩:=m.cells;let⟨D,n,o,E,hs,y⟩:=m.AV;have r:=keyOf_int_mk underlying27 (Dx j);have q:Maps.has D (.U id)=B:=(hs.has id).Z u;go_in;go_wp2_with(first
  |(at_lookup;refine wpList_lookup_own_unit _ rfl _ _ 158 rfl 27 _ mr underlying158 aU hh n D rfl o _ _ rfl r ?_;rw[q])
  |go_in)
 go_ret;exact⟨rfl,aD.alloc aA _⟩
theorem ej4(nd:ar)(id:Int):xr nd id=(dD (nd.M=0)||(dD (J nd.y=1)&&nd.y.contains id)):=by
 unfold xr
 match nd.y with
 |[]=>simp
 |[y]=>
  congr 1;simp only[List.length_singleton,decide_true,vI,List.headD_cons];rw[Po];simp;exact⟨λe=>(Xm e).C,λe=>JV e.C⟩
 |y::z::r=>simp
def ej6(r:O (PN w0 w g hh uu nd)){id:Int}(q:0<=id/\id<2^64){B:Bool}(M:O (xr nd id=B)):dQ dG 332 #[Pz g,.U id] w (Rb (.bool B) w):=by
 obtain⟨V,-,-,-,-,n2,Z,-⟩:=r.cells;let⟨D,n,o,hn,hs,E⟩:=r.AV;have e:=ae M;rw[ej4]at e;have j:=o.len underlying158 3;rw[E]at j;by_cases hm:nd.M=0;{
 have R:(nd.M==0):=by simp[hm]
 obtain rfl:B:=by rw[<-e];simp[hm]
 go_in;go_wp2;go_ret;exact⟨rfl,aR _ _⟩};{
 have R:(nd.M==0)=dF:=by simp[hm]
 by_cases m:J nd.y=1;{
 rw[m]at j;have u:nd.y.contains id=B:=by rw[<-e];simp[hm,m]
 have S:=ag u;go_in;go_wp2_with fail;refine br (Kl r q S) λW N=>?_;go_wp2;go_ret;exact⟨rfl,N⟩};{
 let⟨y,x⟩:=aY (J nd.y);rw[x]at j m;obtain rfl:B=dF:=by rw[<-e,x];simp[hm,m]
 have X:((y:Int)==1)=dF:=by simp;omega
 go_in;go_wp2;go_ret;exact⟨rfl,aR _ _⟩}}
def KD(ns:List ar):Prop:=∀(i j:Nat)(a c:ar),ns[i]?=a->ns[j]?=c->di a.A=di c.A->i=j
def KD.set(h:KD ns)(q:ns[k]?=nd)(s:nd'.A=nd.A):KD (ns.set k nd'):=λi j a c m hc e=>by
 have key:∀(i:Nat)(a:ar),(ns.set k nd')[i]?=Y a->∃o,ns[i]?=Y o/\o.A=a.A:=λi a m=>by rw[uE]at m;by_cases r:k=i;{subst r;rw[aM rfl,aM (bg.1 q).1]at m;cases m;exact⟨nd,q,s.C⟩};{rw[aL r]at m;exact⟨a,m,rfl⟩}
 let⟨o,x,B⟩:=key i a m;let⟨D,u,y⟩:=key j c hc;exact h i j o D x u (by rw[B,y,e])
variable {D:SD}
def bS0{SB NB HB UB:iN}(h:O (PS w0 w b bs bn D SB NB HB UB))(x:O (D.N[k]?=nd))(hS:O (rF D.E))(R:O (NT D.E nd))(hD:O (KD D.N)):dQ dG 343 #[Pz b,.string (aZ nd.A)] w λr w'=>PS w0 w' b bs bn (xH (jV D k 2) k) SB (NB.eraseIdx k) (HB.eraseIdx k) (UB.eraseIdx k)/\(Fr T3 w w'/\Kb (PL b bs bn SB NB HB UB) w w')/\∃v,r=dR v:=by
 go_in;go_wp2_with fail;refine(aK0 h nd x 2 hS R).h ?_;rintro r w1⟨E,hF,v,rfl⟩;replace hF:=ag hF;have X:(jV D k 2).N=D.N.set k {nd with X:=[]}:=by unfold jV;rw[ae x]
 have iK:(jV D k 2).N[k]?=Y {nd with X:=[]}:=X▸tA x _;have MU:KD (jV D k 2).N:=X▸hD.set x rfl;obtain⟨-,-,-,-,-,h5,-⟩:=E.nJ;obtain⟨M,n,o,-,-,-⟩:=E.pX;have S:keyOf dG 9 (.string (aZ nd.A))=(di nd.A):=by rw[WideMaps.keyOf_string_mk underlying9 (by rw[Da];have:=R.pl;unfold maxLen;omega),Vr]
 have s:=du E iK MU;let⟨w',fS,ho,Ke⟩:=o.drop ru underlying179 S 0;have HT:=bG ho Ke;have iO:=ag o;go_wp2;go_end0;have N:=One.DA s.1.be HT.2.grown s.1.lo.2.2 (ownsMap_at iO);refine⟨?_,⟨hF.1.Z N.T,hF.2.Z (N.kb (by simp[PL])) hF.1.1⟩,_,rfl⟩;refine s.1.ez1 s.2.1 N (λj z hz e=>s.2.2 j k z _ hz s.2.1 e) (λM' n' Z=>?_);obtain⟨w2,W,iW,-⟩:=Z.drop ru underlying179 S 0;rw[fS]at W;cases W;exact iW
def dq2{SB NB HB UB:iN}(h:O (PS w0 w b bs bn D SB NB HB UB))(i:O (D.N[k]?=nd))(m:O (rF D.E))(j:O (NT D.E nd))(o:O (KD D.N)):Cp 343 #[Pz b,.string (aZ nd.A)] w λr w'=>PS w0 w' b bs bn (xH (jV D k 2) k) SB (NB.eraseIdx k) (HB.eraseIdx k) (UB.eraseIdx k)/\Fr T3 w w'/\∃v,r=dR v:=(bS0 h i m j o).h λr w'⟨u,s,q⟩=>⟨u,s.1,q⟩
def PS.WY{SB NB HB UB:iN}(h:PS w0 w b bs bn D SB NB HB UB)(hi:D.N[i]?=nd)(hg:NB[i]?=g)(iS:HB[i]?=hh)(iV:UB[i]?=uu)(iO:One w0 w w' g)(V:dV)(vl:LI)(ow mo ep ge:Int)(hc:w'.heap[g]?=dO #[V,.U ow,.I mo,.map hh,.U ep,.U ge,.map uu] 186)(hV:AB w0 w' V vl):PS w0 w' b bs bn {D with N:=D.N.set i {nd with V:=vl,D:=ow,M:=mo,P:=ep,F:=ge}} SB NB HB UB:=by
 obtain⟨lo,⟨V0,q1,-⟩,q3,q4⟩:=h.qK i nd g hh uu hi hg iS iV;let⟨es,c,m3⟩:=q3.at;let⟨IS,c',m4⟩:=q4.at;refine h.aJ0 hi hg iS iV (.L rfl) iO rfl ⟨lo,⟨V,hc,hV⟩,q3.W iO (λe=>?_),q4.W iO (λe=>?_)⟩;{rw[e,q1]at m3;cases m3};{rw[e,q1]at m4;cases m4}
def One.JM(u:Bw w0 w)(r:Below g w w')(q:w.heap[g]?=dO cs ty)(i:U w0.heap<=g)(j:ty∈[97,186,181])(o:∀z,z<U w.heap->z≠g->w'.heap[z]?=w.heap[z]?):One w0 w w' g:=by
 refine⟨r.h i,o,λs x m hc=>?_⟩;rw[q]at hc;simp at hc;rw[<-hc.2.1];exact j
def ax5{α:Type}(l:List α)(k:Nat)(a c:α):(l.set k a).set k c=l.set k c:=by simp
def bS2{SB NB HB UB:iN}(h:O (PS w0 w b bs bn D SB NB HB UB))(q:O (D.N[k]?=nd))(hS:O (rF D.E))(u:O (NT D.E nd)){id:Int}(hid:0<=id/\id<2^64)(My:O (nd.y.Pairwise (·<·)))(Qo:J nd.y<=1048576)(Mz:O (nd.y.contains id)):dQ dG 342 #[Pz b,.string (aZ nd.A),.U id] w λr w'=>PS w0 w' b bs bn (jR D k id) SB NB HB UB/\(Fr T3 w w'/\Kb (PL b bs bn SB NB HB UB) w w')/\∃v,r=dR v:=by
 let⟨g,hh,uu,hg,iS,iV,N,hlk⟩:=h.XC q u.pl;obtain⟨V,hV,gc,-,n1,n2,n3,n4,n5,n6,nf⟩:=N.cells;obtain⟨-,-,-,-,-,h5,-⟩:=h.nJ;let⟨M,nn,oM,hnn,sM,zM⟩:=N.AV;have fh:=keyOf_int_mk underlying27 (Dx hid);let⟨x,fS,ho,Ke⟩:=oM.drop mr underlying158 fh 0;have O1:=One.DA h.be Ke.grown N.lo.2.1 (ownsMap_at oM);have S1:=SM.del (w:=w) sM My hnn ho;have P1:=h.AV q hg iS iV O1 S1;have iK:=tA q {nd with y:=jF nd.y id}
 let⟨V1,xo,gc1,m0,m1,m2,m3,m4,m5,m6,mf⟩:=(P1.qK k _ g hh uu iK hg iS iV).cells;obtain⟨M1,nn1,X,-,-,W⟩:=S1;have m:=X.len underlying158 3;rw[W]at m;let⟨nl,ik⟩:=cG (J (jF nd.y id));rw[ae ik]at m;have S:=bG P1 iK;have F1:=ag O1.T;have K1:=ag (O1.kb (L:=PL b bs bn SB NB HB UB) (by simp[PL,bu iS]));have y:=du hg iS iV;have o:=bG gc1 xo;have glo:=N.lo.1;go_in;by_cases h0:nl=0;{
 subst h0;have ij:jF nd.y id=[]:=sX.1 ik;let⟨Z,E⟩:=aG (((x.setCell (Ad g 2) (.I 0)).setCell (Ad g 4) (.U 0)).setCell (Ad g 5) (.U 0));have vO:Z.heap[g]?=dO #[V1,.U nd.D,.I 0,.map hh,.U 0,.U 0,.map uu] 186:=by rw[E];simp[World.setCell,AK,o.1]
 have bZ:Below g x Z:=by rw[E];exact((aD.setCell (p:=(Ad g 2)) aA _).setCell (p:=(Ad g 4)) aA _).setCell (p:=(Ad g 5)) aA _
 have kZ:∀z,z<U x.heap->z≠g->Z.heap[z]?=x.heap[z]?:=λz _ aN=>by rw[E];iterate 3 rw[fT _ _ _ _ (show z≠_ from aN)]
 have R:=One.JM S.1.be bZ o.1 glo aj kZ;have PZ:=S.1.WY S.2 y.1 y.2.1 y.2.2 R V1 nd.V nd.D 0 0 0 vO (o.2.T R.T);simp only[ax5,ij]at PZ;have HPZ:=ag PZ;have FZ:=ag (F1.Z R.T);have KZ:=ag (K1.Z (R.kb (by simp[PL,bu y.1])) F1.1);have Ge:=ag (tA q {nd with y:=[],M:=0,P:=0,F:=0});have fz2:=mf 2;have QT:=mf 4;have fz5:=mf 5;go_wp2_with fail;rw[<-E];refine(aK0 HPZ (k:=k) {nd with y:=[],M:=0,P:=0,F:=0} Ge 3 hS (ag ⟨u.Vq,u.pl,u.Oo,u.Oq,u.Te⟩)).h ?_;rintro r w5⟨QG,j,v5,rfl⟩;replace j:=ag j;go_wp2;go_end0;refine⟨?_,⟨FZ.Z j.1,KZ.Z j.2 FZ.1⟩,_,rfl⟩;unfold jR;rw[ae q];simp only[ae Mz,od,ij];exact QG};{have QS:=qV 0 nl;go_wp2;refine cg (wS aS _ _ _) rfl ⟨?_,⟨F1,K1⟩,_,rfl⟩;have aN:jF nd.y id≠[]:=λe=>h0 (by rw[<-ae ik,e];rfl);unfold jR;rw[ae q];simp only[ae Mz,od,aL aN];exact S.1}
def dq3{SB NB HB UB:iN}(h:O (PS w0 w b bs bn D SB NB HB UB))(j:O (D.N[k]?=nd))(o:O (rF D.E))(m:O (NT D.E nd)){id:Int}(i:0<=id/\id<2^64)(B:O (nd.y.Pairwise (·<·)))(x:J nd.y<=1048576)(y:O (nd.y.contains id)):Cp 342 #[Pz b,.string (aZ nd.A),.U id] w λr w'=>PS w0 w' b bs bn (jR D k id) SB NB HB UB/\Fr T3 w w'/\∃v,r=dR v:=(bS2 h j o m i B x y).h λr w'⟨u,s,q⟩=>⟨u,s.1,q⟩
def Tryz.infoStr:(Tryz.prog.info? 9).map (λi=>(i.zero,i.size,i.bytes))=Y (Y (.string ByteArray.empty),1,16):=by kernel_rfl
def yX(ns:List ar)(P:LI):List LI:=(ns.filter λi=>dD (ig i.A=P)).map (·.A)
def dJ5(ns:List ar)(P:LI):ta ns P=(yX ns P).map Fz:=by
 unfold ta yX;rw[uB];rfl
def dJ3(h:ns[k]?=nd):yX (ns.take (k+1)) P=if ig nd.A=P then yX (ns.take k) P++[nd.A]else yX (ns.take k) P:=by
 rw[pZ,h,yX,Xl,pK];by_cases e:ig nd.A=P<;>simp[yX,e]
def dJ4:J (yX ns P)<=J ns:=by
 rw[yX,ir];exact Uc _ _
def Q7(_:G)(l:LI)(c:List dV):Prop:=c=[.string (aZ l)]
def cW7{rest:List Oper}{Q:iE}(gR:o.guard=dN){s x:Operand}(ho:o.op=.call {callee:=.builtin .append,args:=#[s,x],argTypes:=#[189,189]})(ek:Le ls k)(hs:a.eval s=v)(cX:RT Q7 9 1 B w v ls)(hx:a.eval x=.T g 1 1)(rP:I w (Ad g 0)=Y (.string (aZ l)))(hk:k<4194304)(hB:B<=U w.heap)(h:∀p' c' w',RT Q7 9 1 B w' (.S p' (k+1) c') (ls++[l])->w.grownBy w' v.ownBlock->wpList dG ops Q rest (a.put o.dst (.S p' (k+1) c')) w'):wpList dG ops Q (o::rest) a w:=by
 let⟨i,hi,iD,fw,fI⟩:=kx Tryz.infoStr;obtain⟨rs,h1,h2,h3,h4⟩:=cX;rw[ae ek]at h3;refine Dt gR 189 ho i 1 Tryz.underlying189 hi iD fw fI rfl bf v hs h3 g 1 1 [.string (aZ l)] hx rfl (λj u hu=>by
  have e:j=0:=by have:=(bg.1 hu).1;simpa using this
  subst e;simp at hu;subst hu;exact rP) (λu hu=>by simp at hu;rw[hu];rfl) jC af hB ?_
 intro v' w' gx hg _;have sn:RT Q7 9 1 B w' v' (ls++[l]):=RT.snoc h1 h2 h4 (λ_ _ h=>h) rfl rfl (ae ek▸gx);obtain⟨p',c',rfl,-⟩:=RT.form sn;rw[dm,ae ek]at sn⊢;exact h p' c' w' sn hg
def RT.eJ9(h:RT Q7 9 1 B w v ls)(i:Bw w w'):RT Q7 9 1 B w' v ls:=h.W (λ_ _ h=>h) (λb j=>i.block b (h.lt b j).2)
variable {L:List LI}
def eE6{SB NB HB UB:iN}(h:O (PS w0 w b bs bn D SB NB HB UB))(rO:O ((D.N.map λnd=>jA nd.A).Pairwise (·<·)))(cQ:O (∀nd∈D.N,aC nd.A/\J nd.A<=1048576))(bP:O (aC P))(eL:O (yX D.N P=L)):dQ dG 352 #[Pz b,.string (aZ P)] w λr w'=>∃p c,r=dR (.S p (J L) c)/\RT Q7 9 1 (U w.heap) w' (.S p (J L) c) L/\Bw w w':=by
 obtain⟨-,-,-,-,-,h5,-⟩:=h.nJ;let⟨M,nn,oM,hnn,mM,zM⟩:=h.pX;have UX:=h.Wt.jt;go_enter Tryz.func352,Tryz.ntmps352;go_wp2_with fail;refine(T.Wv bn nn M w oM (aK oM.size_le)).h ?_;rintro r w1⟨kv,ks,rfl,yw,vD,X⟩;obtain rfl:=aR6 UX rO mM yw;obtain⟨p,c,rfl,Qi⟩:=aP4 vD;let⟨m,W⟩:=cG (J D.N);have hm:m<=1048576:=by have:=oM.size_le;rw[zM,ae W]at this;omega
 rw[ae W];have HK:=ag Qi;have B1:=ag X;go_wp2
 go_loopw[5,14](λov iv wr=>∃(j:Nat)(N:List LI),j<=m/\iv=.I j/\O (yX (D.N.take j) P=N)/\O (RT Q7 9 1 (U w1.heap) wr ov N)/\O (Bw w1 wr)) (λ_ iv _=>m-(intOf iv).toNat)
 exact⟨0,[],cO _,rfl,(by show _=_;simp[yX]),RT.nil _ _ _ _ _,aR _ _⟩;{
 obtain⟨j,N,hj,rfl,V,E,R⟩:=hrel;obtain⟨po,co,rfl,-⟩:=RT.form E;have zr:=R.size;have Ip:J N<=j:=by have h1:=dJ4 (ns:=D.N.take j) (P:=P);have h2:=J3 j D.N;rw[ae V]at h1;omega
 by_cases aH:j<m;{
 have cL:=bM j m;obtain⟨nd,hx⟩:∃nd,D.N[j]?=Y nd:=⟨_,bD (ae W▸aH)⟩;obtain⟨gk,rfl,Ko⟩:∃gk,p=(Ad gk 0)/\I wr (Ad gk j)=Y (.string (aZ nd.A)):=by obtain h0|⟨gk,rfl,h1,h2,h3⟩:=ae HK;{rw[h0]at hx;simp at hx};{exact⟨gk,rfl,al (by have:=h3 j nd hx;rwa [mO]at this) R⟩}
 let⟨X,ay⟩:=ae cQ nd (bu hx);have iM:=ag (dJ3 (P:=P) hx);let⟨nP,eN⟩:=cG (J nd.A);rw[ae eN]at ay;have jr:=ag X;have y:=Nq (TG X) bP;go_wp2_with fail;refine(aQ2 eN jr ay).h ?_;rintro r Z⟨rfl,rfl⟩;by_cases hq:ig nd.A=P;{
 have kh:dD (ig nd.A=P):=by simp[hq]
 rw[kh]at y;have E1:=ag (by have:=ae iM;rwa [aM hq,ae V]at this:yX (D.N.take (j+1)) P=N++[nd.A]);go_wp2_with(at_builtin;refine cW7 rfl rfl (v:=.S po (J N) co) (l:=nd.A) rfl rfl (RT.eJ9 E (aD.alloc aA _)) (g:=U Z.heap) rfl aj af bq ?_);intro p' c' w5 T5 l9;have bA:Bw Z (Z.alloc (dO #[.string (aZ nd.A)] 9)):=aD.alloc aA _;have B5:=ag ((ai (ae R) bA).grown l9 bq (λb' e=>(E.lt b' e).1));have T5':=ag T5;go_wp2;go_roundw;exact⟨j+1,_,af,by go_num,E1,T5',B5⟩;exact cW};{
 have kh:dD (ig nd.A=P)=dF:=by simp[hq]
 rw[kh]at y;have E1:=ag (by have:=ae iM;rwa [aL hq,ae V]at this:yX (D.N.take (j+1)) P=N);go_wp2;go_roundw;exact⟨j+1,N,af,by go_num,E1,E,R⟩;exact cW}};{have cL:=fq j m;have e1:=ae V;rw[lY (by rw[ae W];omega),ae eL]at e1;subst e1;go_wp2;go_ret;exact⟨_,_,rfl,RT.h E B1.size,ai B1 R⟩}}
def TX(w:G)(b:Nat)(st rs i:List dV):Prop:=BX w b st/\BX w (b+1+1) rs/\RX w (b+1+1+1) i
def TX.T{T:List TypeId}{st rs rp:List dV}(h:TX w b st rs rp)(hf:Fr T w w')(ht:41∉T/\47∉T:=by decide):TX w' b st rs rp:=⟨h.1.T hf ht.1,h.2.1.T hf ht.1,h.2.2.T hf ht.2⟩
def TX.fin{st:List dV}{V S R N M E D y:dV}(h:TX w b st [o0,o1,o2,o3,o4,o5] [V,S,R,N,M,E,D,y])(v0 v1 v2 v3 v4 v5 u s r q o m j i:dV):Fr [41,47] w (nw (gu w (b+1+1) v0 v1 v2 v3 v4 v5) (b+1+1+1) u s r q o m j i)/\Below b w (nw (gu w (b+1+1) v0 v1 v2 v3 v4 v5) (b+1+1+1) u s r q o m j i):=by
 have x:Fr [41] w (gu w (b+1+1) v0 v1 v2 v3 v4 v5):=by obtain⟨-,cur,ht⟩:=h.2.1;exact vx ht
 have W:=((h.2.2.T x).put u s r q o m j i).2;exact⟨(x.sub aj).Z (W.sub aj),((tR _ _ _ _ _ _ _).h af).Z ((tQ).h af)⟩
def TX.put{s0 s1 s2 o m j:dV}{rs:List dV}(h:TX w b [s0,s1,s2,o,m,j] rs rp)(v0 v1 v2 v3 v4 v5:dV):TX (gu w b v0 v1 v2 v3 v4 v5) b [v0,v1,v2,v3,v4,v5] rs rp/\Fr [41] w (gu w b v0 v1 v2 v3 v4 v5)/\Below b w (gu w b v0 v1 v2 v3 v4 v5):=by
 have i:Fr [41] w (gu w b v0 v1 v2 v3 v4 v5):=by obtain⟨-,cur,ht⟩:=h.1;exact vx ht
 exact⟨⟨h.1.put _ _ _ _ _ _,h.2.1.my af _ _ _ _ _ _,h.2.2.T i⟩,i,tR _ _ _ _ _ _ _⟩
def QR.low{i:G}{R:RP}(h:QR B w1 w2 r D R)(hF:Fr [119,97,141] w w1)(E:Below B w w1)(f:Fr [41,47] w2 i)(b:Below (U w.heap) w2 i)(j:B<=U w.heap):QR B w i r D R:=by
 obtain⟨p,c,q,d,V,S,Ev,N,e,x,y,u,o,s,m,M⟩:=h;exact⟨p,c,q,d,V,S,Ev,N,e,x.T f,dh.T y f,u.T f,TN.T o f bf,mZ.T s f,(hF.Z m).low b,(E.Z M).Z (b.h j)⟩
variable {q:OA}{g:Int}{d:Nat}
def dz7(en:Le ss n)(em:Le ns m)(hk:O (ns[k]?=nd))(eV:Le V nv)(hS:O (eh B w (.S p n c) ss Qs))(hN:O (jK B w (.S q m d) ns))(hV:O (Rd w (.S pq nv cv) V))(hB:B<=U w.heap)(hn:Mg n)(hm:Mg m)(DV:O (NBo nd))(hvl:O (J nd.V<=1048576))(hv:nv<=1048576)(QF:O (PPB ns))(hg:0<=g/\g<=2^62)(hex:O (nd.M=1->nd.y≠[])){R:SD×RP}(hj:O (K=5\/K=7\/K=8\/K=9))(eR:O (Ht ⟨e,g,x,t,ss,ns⟩ k K S F V=R)):dQ dG 109 #[bS e g x t (.S p n c) (.S q m d),.I k,qZ K S (.S pp np cp) F (.S pq nv cv) E iG] w λr w'=>QR B w w' r R.1 R.2:=by
 obtain⟨gn,Pv,Vv,Hv,Uv,rfl,-,-,c0,c1,c2,c3,c4,c5,c6,c7,tP,tV,tH,tU,-⟩:=dh.at hN hk;have hkm:k<m:=by rw[<-ae em];exact(bg.1 hk).1
 have be8:=bM k m;obtain⟨pP,cP,rfl⟩:=tP.dy;obtain⟨pV,cV,rfl⟩:=tV.dy;obtain⟨pH,cH,rfl⟩:=tH.dy;obtain⟨pU,cU,rfl⟩:=tU.dy;let⟨nP,eP⟩:=cG (J nd.A);let⟨nV,eW⟩:=cG (J nd.V);let⟨nU,eU⟩:=cG (J nd.X);let⟨nh,eH⟩:=cG (J nd.y);let⟨au,ay,aI⟩:=ae DV;have cT:=ae hvl;rw[ae eP]at c0 tP au;rw[ae eW]at c1 tV cT;rw[ae eH]at c4 tH aI;rw[ae eU]at c7 tU ay;have D5:gn<U w.heap:=(hN.lt gn rfl).2;have vT:=(hN.lt gn rfl).1;let⟨W0,cI,b0,z0,C0⟩:=xu w (.U e) (.U g) (.U x) (.I t) (.S p n c) (.T gn m d);obtain⟨W1,fx,b1,z1,C1,-⟩:=bQ W0 #[.I K,.U S,.S pp np cp,.I F,.S pq nv cv,.U E,.U iG] 65;let⟨W2,fE,b2,z2,C2⟩:=Al W1;let⟨W3,jI,b3,z3,C3⟩:=xt W2 (.I 0) (.U 0) (.U 0) (.U 0) (.I 0) aO aO aO;let⟨W4,hW4,b4,z4,C4,T4⟩:=bQ W3 #[.S pP nP cP,.S pV nV cV,.U nd.D,.I nd.M,.S pH nh cH,.U nd.P,.U nd.F,.S pU nU cU] 141;rw[z0]at C1 z1;rw[z1]at C2 z2;rw[z2]at C3 z3;rw[z3]at C4 T4 z4;have NT4:=ag T4;have LQ:LB W4 (U w.heap) _ _ _ _ _:=⟨(((C0.H b1).H b2).H b3).H b4,((C1.H af b2).H af b3).H af b4,(C2.H b3).H b4,C3.H b4,C4⟩;have bW:=ai (ai (ai (ai b0 b1) b2) b3) b4;have W:=ag (λ(v:G)(hv:Bw W4 v)=>aF (LB.W LQ (λj h1 h2=>hv.block j af)) (aF (hS.T (bH (ai bW hv))) (aF (dh.T hN (bH (ai bW hv))) (aF (aF (tP.T (bH (ai bW hv))) (aF (tV.T (bH (ai bW hv))) (aF (tH.T (bH (ai bW hv))) (tU.T (bH (ai bW hv)))))) (aF (hV.H (ai bW hv)) (ai bW hv))))));have aW:=λ(o1 o2 o3 o4:Obj)=>((((aR (U w.heap) w).alloc aA o1).alloc aj o2).alloc bq o3).alloc bq o4;have m0:=λ(o1 o2 o3 o4:Obj)=>al c0 (aW o1 o2 o3 o4);have m1:=λ(o1 o2 o3 o4:Obj)=>al c1 (aW o1 o2 o3 o4);have m2:=λ(o1 o2 o3 o4:Obj)=>al c2 (aW o1 o2 o3 o4);have m3:=λ(o1 o2 o3 o4:Obj)=>al c3 (aW o1 o2 o3 o4);have m4:=λ(o1 o2 o3 o4:Obj)=>al c4 (aW o1 o2 o3 o4);have m5:=λ(o1 o2 o3 o4:Obj)=>al c5 (aW o1 o2 o3 o4);have m6:=λ(o1 o2 o3 o4:Obj)=>al c6 (aW o1 o2 o3 o4);have m7:=λ(o1 o2 o3 o4:Obj)=>al c7 (aW o1 o2 o3 o4);clear b0 b1 b2 b3 b4 C0 C1 C2 C3 C4 T4 c0 c1 c2 c3 c4 c5 c6 c7 tP tV tH tU aW LQ bW;have hR:=ae eR;unfold Ht at hR;simp only[ae hk]at hR;have HR:=ag hR;clear hR;go_in
 go_upto_if 16 with fail
 rw[<-cI,<-fx,<-fE,<-jI,<-hW4];clear cI fx fE jI hW4 m0 m1 m2 m3 m4 m5 m6 m7;have BR:=ag (aR (U W4.heap) W4);obtain⟨L4,-,-,-,-,-⟩:=ae W W4 BR;let⟨o0,o1,o2,o3,o4,o5,o6⟩:=Lg L4.2.1.1;have n0:=L4.2.2.2.2.1 0 _ rfl;have n4:=L4.2.2.2.2.1 4 _ rfl;let⟨k0,k1,k2,k3,k4,k5,kf⟩:=L4.1.cells;clear L4;by_cases Gn:K=5;{
 have bk7:(K==5):=by simp[Gn]
 have y:=ae HR;rw[aM Gn]at y;have E8:=ag y;clear y HR Gn;let⟨L,eL⟩:=cG (ta ns nd.A);let⟨nl,ik⟩:=cG (J L);go_wp2_with fail;obtain⟨-,-,N4,T4,-,-⟩:=ae W W4 BR;refine(eE5 em eP N4 T4.1.1 (ae QF nd (bu (ae hk))).2.1 QF hm eL).h ?_;rintro r w1⟨p1,c1,rfl,-,au⟩;have B1:=ag au;rw[ae ik];clear N4 T4 au o0 o1 o2 o3 o4 o5 o6 n0 n4 k0 k1 k2 k3 k4 k5 kf;have y:=ae E8;by_cases rC:nl=0;{have hL0:L=[]:=sX.1 (ik.Z rC);rw[ae eL,hL0,aL aj]at y;have E7:=ag y;have dU8:¬(0:Int)<(nl:Int):=af;clear y E8 rC;obtain⟨L1,-,-,T1,-,-⟩:=ae W w1 B1;have o1:=L1.2.1.1 1 _ rfl;let⟨n0,n1,n2,n3,n4,n5,n6,n7⟩:=Nx L1.2.2.2.2.1;have HU:=ag T1.2.2.1.1;clear L1 T1;go_wp2_with fail;refine br (ej5 (P:=.S pP nP cP) (V:=.S pV nV cV) (H:=.S pH nh cH) (iU:=.S pU nU cU) eH HU rfl rfl rfl) λw2 ay=>?_;have B2:=ag (ai B1 ay);let⟨fb,efb⟩:=cG (xr nd S);have y:=ae E7;rw[ae efb]at y⊢;clear ay B1 o1 n0 n1 n2 n3 n4 n5 n6 n7 E7;cases fb;{rw[aM rfl]at y;have E9:=ag y;clear y;go_wp2_with fail;obtain⟨LW,SW,NW,-,-,BW⟩:=ae W w2 B2;exact rq 3 6 7 30 31 9 results109 LW.1 LW.2.2.1 LW.2.2.2.1 en em SW NW (Fr.H BW) (BW.h hB) hB E9};{rw[aL aj]at y;have E9:=ag y;clear y;obtain⟨L2,S2,N2,-,-,ZU⟩:=ae W w2 B2;have LD:=ZU.size;have TX2:=ag (show TX w2 (U w.heap) _ _ _ from⟨L2.1,L2.2.2.1,L2.2.2.2.1⟩);let⟨k0,k1,k2,k3,k4,k5,kf⟩:=L2.1.cells;have lh:=ag ZU;have kq:=ag S2;have pT:=ag N2;go_wp2_with fail;refine(ah0 e g x t en 2 nd hk B w2 kq pT af hn hm (by rw[ae eP];exact au) (by rw[ae eU];exact ay)).h ?_;rintro r w3⟨rfl,⟨Q3,Gm⟩,tv,rT,IG⟩;have TX3:=ag (TX.T TX2 rT bf);let⟨TXp,fp,bp⟩:=TX.put TX3 (.U e) (.U g) (.U x) (.I t) (.S p n c) (.T gn m d);let⟨X,hX⟩:=aG (gu w3 (U w.heap) (.U e) (.U g) (.U x) (.I t) (.S p n c) (.T gn m d));rw[<-hX]at TXp fp bp;have zX:=bp.size;have zf:=rT.1;have HX:=mX TXp (Gm.T fp) (dh.T tv fp) (Fr.low ((Fr.H lh).Z rT) bp) (((lh.h hB).Z IG).Z (bp.h hB));have s0:=TX3.1.cells;have y0:=TXp.1.cells;unfold gu at hX;go_wp2_with fail;rw[<-hX];refine(bS1 (ag (by rw[rK];exact ae em)) HX.2.2.1 hm).h ?_;rintro r w4⟨p4,c4,rfl,UY,au9⟩;obtain⟨M,eM⟩:∃M,M=(ns.set k {nd with X:=[]}).eraseIdx k:=⟨_,rfl⟩;let⟨N,eN⟩:=cG (J M);rw[<-eM,ae eN]at UY⊢;have D:=ag (TX.T HX.1 (bH au9) bf);let⟨k0,k1,k2,k3,k4,k5,kf⟩:=D.1.cells;let⟨q0,q1,q2,q3,q4,q5,qf⟩:=D.2.1.cells;let⟨r0,r1,r2,r3,r4,r5,r6,r7,rf⟩:=D.2.2.cells;have HZ:=gI (HX.2.1.T (bH au9)) (RT.h UY af:jK B w4 (.S p4 N c4) M) (HX.2.2.2.1.Z (Fr.H au9)) (HX.2.2.2.2.Z (au9.h af));have HE:=ag eM;go_wp2;let⟨fF,bF⟩:=TX.fin D (.U e) (.U g) (.U x) (.I t) (.S p n c) (.S p4 N c4) (.I 0) (.U 0) (.U 0) (.U 0) (.I 0) aO aO aO;refine cg (v:=dT #[bS e g x t (.S p n c) (.S p4 N c4),gG 0 0 0 0 0 aO aO aO]) (by simp[results,results109,go_sem,k0,k1,k2,k3,k4,k5,q0,q1,q2,q3,q4,q5,r0,r1,r2,r3,r4,r5,r6,r7]) rfl ?_;rw[<-ae E9,aK2 (ae hk)];have hQ:=QR.num (e:=e) (g:=g) (x:=x) (t:=t) ((Wj _ _ _).Z en) eN HZ.1 HZ.2.1 HZ.2.2.1 HZ.2.2.2 fF bF hB 0 0 0 0 0;rw[ae HE]at hQ;exact hQ}};{have hL0:¬L=[]:=λh=>rC (by rw[<-ae ik,h];rfl);rw[ae eL,aM hL0]at y;have E9:=ag y;have dU8:=qV 0 nl;go_wp2_with fail;obtain⟨LW,SW,NW,-,-,BW⟩:=ae W w1 B1;exact rq 3 6 7 23 24 8 results109 LW.1 LW.2.2.1 LW.2.2.2.1 en em SW NW (Fr.H BW) (BW.h hB) hB E9}};{
 by_cases MR:K=6;{have h9:=ae hj;omega};{
 by_cases MQ:K=7;{
 skip
 have bk7:(K==5)=dF:=by simp[Gn]
 have cr2:(K==6)=dF:=by simp[MR]
 have cr1:(K==7):=by simp[MQ]
 have y:=ae HR;rw[aL Gn,aL MR,aM MQ]at y;have E8:=ag y;obtain⟨T,eT⟩:∃T,O ((dD (nd.M=1)&&!(nd.y.headD 0==S))=T):=⟨_,rfl⟩;go_wp2_with fail
 go_cut[69](λrv wc=>rv=.bool T/\O (Bw W4 wc))
 case first=>(
 let⟨vA,dr⟩:=aG W4.drew;have cR:=lG dr;have BA:=ag cR;obtain⟨L1,-,-,T1,-,-⟩:=ae W vA cR;have N3:=du (L1.2.2.2.2.1 3 _ rfl) (L1.2.2.2.2.1 4 _ rfl) (L1.2.1.1 1 _ rfl);have TH:=ag T1.2.2.1.1;refine Xg ?_;by_cases sC:nd.M=1;{
 have be3:(nd.M==1):=by simp[sC]
 let⟨hd,tl,ehd⟩:=dD2 (ae hex sC);have hT:(!(hd==S))=T:=by rw[<-ae eT,ehd];simp[sC]
 let⟨bh,oh,ebh,ch⟩:=TH.at (k:=0) (x:=hd) (by rw[ehd];rfl);have hnh:0<nh:=by rw[<-ae eH,ehd];simp
 have fr1:=qV 0 nh;rw[DL]at ch;subst ebh;refine am4 (S:=λw'=>I w' (Ad (U w.heap+1+1+1+1) 3)=dI nd.M/\I w' (Ad (U w.heap+1+1+1+1) 4)=dS (Ad bh oh) nh cH/\I w' (Ax w 1)=dU S/\I w' (Ad bh oh)=dU hd) aU (by rw[<-dr];exact⟨N3.1,N3.2.1,N3.2.2,ch⟩) (λhS=>?_);rw[<-dr]at hS⊢;by_cases hx:hd=S;{
 have yY:(hd != S)=dF:=by simp[hx]
 obtain rfl:T=dF:=by rw[<-hT];simp[hx]
 refine iR 0 1 2 3 4 5 6 7 hS ?_;refine iC 8 9 10 11 hS ?_;refine fy ?_;go_wp2_with fail;go_meet;exact⟨rfl,BA⟩};{
 have yY:(hd != S):=by simp[hx]
 obtain rfl:T:=by rw[<-hT];simp[hx]
 refine iR 0 1 2 3 4 5 6 7 hS ?_;refine iC 8 9 10 11 hS ?_;refine fy ?_;go_wp2_with fail;go_meet;exact⟨rfl,BA⟩}};{
 have be3:(nd.M==1)=dF:=by simp[sC]
 obtain rfl:T=dF:=by rw[<-ae eT];simp[sC]
 refine am4 (S:=λw'=>I w' (Ad (U w.heap+1+1+1+1) 3)=dI nd.M) aU (by rw[<-dr];exact N3.1) (λhS=>?_);rw[<-dr]at hS⊢;refine iC 0 1 2 3 hS ?_;refine kr 4 5 6 7 hS ?_;refine sn 8 hS ?_;refine sn 9 hS ?_;refine sn 10 hS ?_;refine tn 11 hS ?_;refine fy ?_;go_wp2_with fail;go_meet;exact⟨rfl,BA⟩})
 case rest=>(
 obtain⟨w1,rfl⟩:=aG wc;obtain⟨rfl,B1⟩:=hcut;have y:=ae E8;have JA:=B1.size;cases T;{
 rw[aL (λh=>by have h3:=ae eT;rw[JV h.1,vI]at h3;exact h.2 (eq_of_beq (by cases hh:(nd.y.headD 0==S)with|true=>rfl|false=>rw[hh]at h3;cases h3)))]at y;have E9:=ag y;go_wp2_with fail;let⟨vA,dr⟩:=aG w1.drew;have cR:Bw W4 vA:=ai (ae B1) (by rw[dr];exact aD.drew);have BA:=ag cR;have SA:=ag (λ(v:G)(hL:LB v (U w.heap) [.U e,.U g,.U x,.I t,.S p n c,.T gn m d] [.I K,.U S,.S pp np cp,.I F,.S pq nv cv,.U E,.U iG] [.U 0,.U 0,.U 0,.I 0,aq,aq] [.I 0,.U 0,.U 0,.U 0,.I 0,aO,aO,aO] [.S pP nP cP,.S pV nV cV,.U nd.D,.I nd.M,.S pH nh cH,.U nd.P,.U nd.F,.S pU nU cU])=>aF (hL.1.1.1 5 _ rfl) (hL.2.1.1 4 _ rfl));refine fk (λw'=>I w' (Aw w 5)=dK gn m d/\I w' (Ax w 4)=dS pq nv cv) (by rw[<-dr];exact ae SA vA (ae W vA cR).1) λhS=>?_;rw[<-dr]at hS⊢;refine iC 0 1 2 3 hS ?_;refine tn 4 hS ?_;refine ew 5 λKK hK=>?_;refine jg (Ci eV (ae W vA BA).2.2.2.2.1 af) ?_;rintro r v1⟨pa,ca,rfl,oa,ke⟩;refine⟨_,rfl,?_⟩;have B2:=ag (ai BA ke);have OA:=ag (oa.tc (B:=B) (aK BA.size));have LD:=B2.size;refine bL hK (by exact SA v1 (ae W v1 B2).1) λhS=>?_;clear hK KK ke oa;refine fO 6 7 hS ?_;refine ew 8 λKK hK=>?_;obtain⟨LV,SV,NV,-,-,bV⟩:=ae W v1 B2;obtain⟨U9,P',V',H',U',eg,-,-,-,d1,-,-,-,-,-,-,-,-,-,-,IW⟩:=dh.at NV hk;obtain⟨rfl,-⟩:=Ao eg;have QT:=IW (k*8+1);have Jm:=gI LV SV NV bV;clear NV LV SV bV IW;go_simp;let⟨N4,F4⟩:=dh.put Jm.2.2.1 hk (j:=1) af (.S pa nv ca) {nd with V:=V} (λw' P V H iU h1 h2 h3 h4 hf=>⟨P,.S pa nv ca,H,iU,rfl,h1,OA.T hf,h3,h4⟩);let⟨Z,hZ⟩:=aG (v1.setCell (Ad gn (k*8+1)) (.S pa nv ca));have LZ:=LB.W (w'':=Z) Jm.1 (λj h1 h2=>by rw[hZ];exact fT _ _ _ _ (by show j≠gn;omega));have BZ:Below B w Z:=by rw[hZ];exact(Jm.2.2.2.h hB).setCell (p:=(Ad gn _)) vT _
 rw[<-hZ]at N4 F4⊢;have zZ:=F4.1;have HZ:=mX (show TX Z (U w.heap) _ _ _ from⟨LZ.1,LZ.2.2.1,LZ.2.2.2.1⟩) (Jm.2.1.T F4) N4 ((Fr.H (T:=[119,97,141]) Jm.2.2.2).Z (F4.sub aj)) BZ;refine bL hK (by exact SA Z LZ) λhS=>?_;clear hK KK hZ N4 F4 LZ BZ d1 QT Jm;refine fy ?_;clear hS SA;let⟨k0,k1,k2,k3,k4,k5,kf⟩:=HZ.1.1.cells;have Iu:=ag (tA hk {nd with V:=V});go_wp2_with fail;refine(ah0 e g x t (p:=p) (c:=c) (q:=Y (Ad gn 0)) (m:=m) (d:=d) (Qs:=Qs) (ns:=ns.set k {nd with V:=V}) en (k:=k) 1 {nd with V:=V} Iu B Z HZ.2.1 HZ.2.2.1 af hn hm (by show J nd.A<=_;rw[ae eP];exact au) (by show J nd.X<=_;rw[ae eU];exact ay)).h ?_;rintro r w3⟨rfl,⟨Q3,Gm⟩,tv,rT,IG⟩;have D:=ag (TX.T HZ.1 rT bf);clear k0 k1 k2 k3 k4 k5 kf;let⟨k0,k1,k2,k3,k4,k5,kf⟩:=D.1.cells;let⟨q0,q1,q2,q3,q4,q5,qf⟩:=D.2.1.cells;let⟨r0,r1,r2,r3,r4,r5,r6,r7,rf⟩:=D.2.2.cells;have HY:=gI Gm tv (HZ.2.2.2.1.Z rT) (HZ.2.2.2.2.Z IG);clear Gm tv rT IG;go_wp2;let⟨fF,bF⟩:=TX.fin D (.U e) (.U g) (.U x) (.I t) (.S p n c) (.T gn m d) (.I 0) (.U 0) (.U 0) (.U 0) (.I 0) aO aO aO;refine cg (v:=dT #[bS e g x t (.S p n c) (.T gn m d),gG 0 0 0 0 0 aO aO aO]) (by simp[results,results109,go_sem,q0,q1,q2,q3,q4,q5,r0,r1,r2,r3,r4,r5,r6,r7]) rfl ?_;rw[<-ae E9,aK2 (ae Iu)];exact QR.num (e:=e) (g:=g) (x:=x) (t:=t) ((Wj _ _ _).Z en) (ag (by rw[rK,rK];exact ae em)) HY.1 HY.2.1 HY.2.2.1 HY.2.2.2 fF bF hB 0 0 0 0 0};{rw[aM (by have h3:=ae eT;obtain⟨ha,hb⟩:=Bool.and_eq_true_iff.1 h3;exact⟨Xm ha,λhc=>by rw[hc]at hb;simp at hb⟩)]at y;have E9:=ag y;go_wp2_with fail;obtain⟨LW,SW,NW,-,-,BW⟩:=ae W w1 B1;exact rq 3 6 7 70 71 9 results109 LW.1 LW.2.2.1 LW.2.2.2.1 en em SW NW (Fr.H BW) (BW.h hB) hB E9})}
 {
 by_cases hK8:K=8;{
 skip
 have bk7:(K==5)=dF:=by simp[Gn]
 have cr2:(K==6)=dF:=by simp[MR]
 have cr1:(K==7)=dF:=by simp[MQ]
 have ef8:(K==8):=by simp[hK8]
 have y:=ae HR;rw[aL Gn,aL MR,aL MQ,aM hK8]at y;have E8:=ag y;go_wp2_with fail;obtain⟨L4,S4,N4,-,-,bw4⟩:=ae W W4 BR;have z4':=bw4.size;refine(dE2 en em hk S4 N4 af hm (by rw[ae eH];exact aI) hg E8).h ?_;rintro r w2⟨p',c',q',d',Dv,Nv,Ev,sk,rfl,tp,qB,tD,tN,tE,hF,jl⟩;have D:=ag (TX.T (show TX W4 (U w.heap) _ _ _ from⟨L4.1,L4.2.2.1,L4.2.2.2.1⟩) hF bf);have HQ:=ag (show QR B W4 w2 _ R.1 R.2 from⟨p',c',q',d',Dv,Nv,Ev,sk,rfl,tp,qB,tD,tN,tE,hF,jl⟩);obtain⟨dp,dc,rfl⟩:=tD.dy;obtain⟨xp,xc,rfl,-⟩:=RT.form tN;obtain⟨yp,yc,rfl,-⟩:=RT.form tE;have BW:=ag bw4;let⟨k0,k1,k2,k3,k4,k5,kf⟩:=D.1.cells;let⟨q0,q1,q2,q3,q4,q5,qf⟩:=D.2.1.cells;let⟨r0,r1,r2,r3,r4,r5,r6,r7,rf⟩:=D.2.2.cells;go_wp2;let⟨fF,bF⟩:=TX.fin D (.U R.1.e) (.U R.1.g) (.U R.1.x) (.I R.1.t) (.S p' (J R.1.E) c') (.S q' (J R.1.N) d') (.I R.2.k) (.U R.2.i) (.U R.2.e) (.U R.2.g) (.I R.2.n) (.S dp (J R.2.sL) dc) (.S xp (J R.2.nms) xc) (.S yp (J R.2.rZ) yc);refine cg (v:=dT #[bS R.1.e R.1.g R.1.x R.1.t (.S p' (J R.1.E) c') (.S q' (J R.1.N) d'),gG R.2.k R.2.i R.2.e R.2.g R.2.n (.S dp (J R.2.sL) dc) (.S xp (J R.2.nms) xc) (.S yp (J R.2.rZ) yc)]) (by simp[results,results109,go_sem,q0,q1,q2,q3,q4,q5,r0,r1,r2,r3,r4,r5,r6,r7]) rfl ?_;exact QR.low HQ (Fr.H BW) (BW.h hB) fF bF hB};{
 by_cases hK9:K=9;{
 skip
 have bk7:(K==5)=dF:=by simp[Gn]
 have cr2:(K==6)=dF:=by simp[MR]
 have cr1:(K==7)=dF:=by simp[MQ]
 have ef8:(K==8)=dF:=by simp[hK8]
 have fw6:(K==9):=by simp[hK9]
 have y:=ae HR;rw[aL Gn,aL MR,aL MQ,aL hK8,aM hK9]at y;have E8:=ag y;let⟨bo,Cv⟩:=cG (nd.y.contains S);go_wp2_with fail;refine br (aZ0 eH (ae W W4 BR).2.2.2.1.2.2.1.1 aI Cv) λw1 co4=>?_;have B1:=ag co4;have JA:=co4.size;have y:=ae E8;rw[ae Cv]at y;cases bo;{rw[aL aj]at y;have E9:=ag y;go_wp2_with fail;obtain⟨LW,SW,NW,-,-,BW⟩:=ae W w1 B1;exact rq 3 6 7 102 103 10 results109 LW.1 LW.2.2.1 LW.2.2.2.1 en em SW NW (Fr.H BW) (BW.h hB) hB E9};{rw[aM rfl]at y;have E9:=ag y;obtain⟨L1,S1,N1,-,-,bw1⟩:=ae W w1 B1;let⟨k0,k1,k2,k3,k4,k5,kf⟩:=L1.1.cells;have o1:=L1.2.1.1 1 _ rfl;have TX1:=ag (show TX w1 (U w.heap) _ _ _ from⟨L1.1,L1.2.2.1,L1.2.2.2.1⟩);have H1:=du S1 N1 bw1;have zb1:=bw1.size;go_wp2_with fail;refine(cC3 en hk H1.1 H1.2.1 af hn hm (by rw[ae eP];exact au) (by rw[ae eU];exact ay) (by rw[ae eH];exact aI)).h ?_;rintro r w3⟨rfl,⟨Q3,Gm⟩,tv,rT,IG⟩;obtain⟨tI,JN,gQ,eD,el1,Zx,-,-,-⟩:=cC5 (e:=e) (g:=g) (x:=x) (t:=t) (ss:=ss) hk S;rw[eD]at Gm tv;have D:=ag (TX.T TX1 rT bf);let⟨k0,k1,k2,k3,k4,k5,kf⟩:=D.1.cells;let⟨q0,q1,q2,q3,q4,q5,qf⟩:=D.2.1.cells;let⟨r0,r1,r2,r3,r4,r5,r6,r7,rf⟩:=D.2.2.cells;have HY:=gI Gm tv ((Fr.H H1.2.2).Z rT) ((H1.2.2.h hB).Z IG);have HE:=du eD el1 Zx;go_wp2;let⟨fF,bF⟩:=TX.fin D (.U e) (.U g) (.U x) (.I t) (.S p n c) (.T gn m d) (.I 0) (.U 0) (.U 0) (.U 0) (.I 0) aO aO aO;refine cg (v:=dT #[bS e g x t (.S p n c) (.T gn m d),gG 0 0 0 0 0 aO aO aO]) (by simp[results,results109,go_sem,q0,q1,q2,q3,q4,q5,r0,r1,r2,r3,r4,r5,r6,r7]) rfl ?_;rw[<-ae E9,HE.1];exact QR.num (e:=e) (g:=g) (x:=x) (t:=t) (HE.2.1.Z en) (HE.2.2.Z em) HY.1 HY.2.1 HY.2.2.1 HY.2.2.2 fF bF hB 0 0 0 0 0}};{have h9:=ae hj;omega}}}}}
def dx2(W:Le ss n)(em:Le ns m)(hS:O (eh B w (.S p n c) ss Qs))(hN:O (jK B w (.S q m d) ns))(hB:B<=U w.heap)(hn:Mg n)(hx:0<=x/\x<=2^62)(ht:0<=t/\t<=1000000):dQ dG 100 #[bS e g x t (.S p n c) (.S q m d)] w λr w'=>QR B w w' r (yO ⟨e,g,x,t,ss,ns⟩).1 (yO ⟨e,g,x,t,ss,ns⟩).2:=by
 let⟨W0,cI,b0,z0,C0⟩:=xu w (.U e) (.U g) (.U x) (.I t) (.S p n c) (.S q m d);let⟨W1,fx,b1,z1,C1⟩:=Al W0;let⟨W2,fE,b2,z2,C2⟩:=xt W1 (.I 0) (.U 0) (.U 0) (.U 0) (.I 0) aO aO aO;rw[z0]at C1 z1;rw[z1]at C2 z2;have E:=du ((C0.H b1).H b2) (C1.H b2) C2;have y:=ag (ai (ai b0 b1) b2);have V:=bG (hS.T (bH y)) (hN.T (bH y));go_in;by_cases Kz:50<=n;{
 have bm2:dD ((50:Int)<=(n:Int)):=by simp;omega
 have hI:yO ⟨e,g,x,t,ss,ns⟩=(⟨e,g,x,t,ss,ns⟩,ni 11):=by unfold yO;rw[aM (by simpa[ae W]using Kz)]
 rw[hI];go_wp2_with fail;rw[<-cI,<-fx,<-fE];refine aO8 1 (U w.heap) aU rfl (λ_ _=>rfl) (λ_ _=>rfl) (λ_ _=>rfl) (λ_ _=>rfl) E.1 E.2.1 E.2.2 af (B:=U w.heap) af af ?_;intro w' au qc f1 I0;have HQ:=ag (QR.num (e:=e) (g:=g) (x:=x) (t:=t) W em V.1 V.2 (Fr.H y) (y.h hB) f1 I0 hB 11 0 0 0 0);let⟨q0,q1,q2,q3,q4,q5,qf⟩:=au.cells;let⟨r0,r1,r2,r3,r4,r5,r6,r7,rf⟩:=qc.cells;simp only[Act.put,xa,xb,xc];go_wp2;exact cg (v:=dT #[bS e g x t (.S p n c) (.S q m d),gG 11 0 0 0 0 aO aO aO]) (by simp[results,results100,go_sem,q0,q1,q2,q3,q4,q5,r0,r1,r2,r3,r4,r5,r6,r7]) rfl HQ};{
 have bm2:dD ((50:Int)<=(n:Int))=dF:=by simp;omega
 by_cases hx2:4611686018427387904<=x;{
 have dP2:dD (4611686018427387904<=x):=by simp;omega
 have hI:yO ⟨e,g,x,t,ss,ns⟩=(⟨e,g,x,t,ss,ns⟩,ni 12):=by unfold yO;rw[aL (by simpa[ae W]using Kz),aM hx2]
 rw[hI];go_wp2_with fail;rw[<-cI,<-fx,<-fE];refine aO8 1 (U w.heap) aU rfl (λ_ _=>rfl) (λ_ _=>rfl) (λ_ _=>rfl) (λ_ _=>rfl) E.1 E.2.1 E.2.2 af (B:=U w.heap) af af ?_;intro w' au qc f1 I0;have HQ:=ag (QR.num (e:=e) (g:=g) (x:=x) (t:=t) W em V.1 V.2 (Fr.H y) (y.h hB) f1 I0 hB 12 0 0 0 0);let⟨q0,q1,q2,q3,q4,q5,qf⟩:=au.cells;let⟨r0,r1,r2,r3,r4,r5,r6,r7,rf⟩:=qc.cells;simp only[Act.put,xa,xb,xc];go_wp2;exact cg (v:=dT #[bS e g x t (.S p n c) (.S q m d),gG 12 0 0 0 0 aO aO aO]) (by simp[results,results100,go_sem,q0,q1,q2,q3,q4,q5,r0,r1,r2,r3,r4,r5,r6,r7]) rfl HQ};{
 have dP2:dD (4611686018427387904<=x)=dF:=by simp;omega
 have hI:yO ⟨e,g,x,t,ss,ns⟩=(⟨e,g,x+1,t,ss++[(x+1,t+10,[])],ns⟩,⟨0,x+1,0,0,t+10,[],[],[]⟩):=by unfold yO;rw[aL (by simpa[ae W]using Kz),aL hx2];rfl
 rw[hI];have wx:IntKind.u64.wrap (x+1)=x+1:=IntWalk.u64_in _ af;have wt:IntKind.i64.wrap (t+10)=t+10:=kP _ af;let⟨V0,hV0,b0,z0,C0⟩:=xu w (.U e) (.U g) (.U (x+1)) (.I t) (.S p n c) (.S q m d);let⟨V1,xo,b1,z1,C1⟩:=Al V0;let⟨V2,hV2,b2,z2,C2⟩:=xt V1 (.I 0) (.U 0) (.U 0) (.U 0) (.I 0) aO aO aO;obtain⟨V3,hV3,b3,z3,C3,-⟩:=bQ V2 #[.U (x+1),.I (t+10),aq] 97;rw[z0]at C1 z1;rw[z1]at C2 z2;rw[z2]at C3 z3;have E:=du (((C0.H b1).H b2).H b3) ((C1.H b2).H b3) (C2.H b3);have y:=ag (ai (ai (ai b0 b1) b2) b3);have V:=bG (hS.T (bH y)) (hN.T (bH y));have Of:=ag C3;have lz:O (J (ss.zip Qs)=n):=by show _=_;rw[Ub,hS.len,ae W];simp
 have uL:O (∀b,(Value.slice p n c).ownBlock=Y b->B<=b/\b<U w.heap):=λb hb=>hS.row.lt b hb;go_wp2_with(at_builtin;rw[<-hV0,<-xo,<-hV2,<-hV3];refine bI6 rfl rfl (v:=.S p n c) (z:=((x+1,t+10,[]),aO)) lz rfl V.1.row (U w.heap+1+1+1) rfl rfl Of.1 af af ?_);intro p' c' w9 hr9 pM R;rw[<-hV0,<-xo,<-hV2,<-hV3]at pM R;have S9:=V.1.dj3 R _ _ hr9;have N9:=dh.T V.2 R;have B9:Below B w w9:=(y.h hB).grown pM af (λb hb=>(ae uL b hb).1);have F9:Fr [119,97,141] w w9:=(Fr.H y).Z (R.sub aj);have X0:=E.1.T R;have X1:=E.2.1.T R;have X2:=E.2.2.T R;let⟨k0,k1,k2,k3,k4,k5,kf⟩:=X0.cells;let⟨fA,bA,gA⟩:=X0.cx3 (j:=4) F9 B9 aA hB (.S p' (n+1) c');let⟨Z,hZ⟩:=aG (w9.setCell (Aw w 4) (.S p' (n+1) c'));have CZ:aQ Z (U w.heap) [.U e,.U g,.U (x+1),.I t,.S p' (n+1) c',.S q m d]:=hZ▸X0.1.db 4 aj _;have X1':=X1.WA (b:=U w.heap) (j:=4) (u:=.S p' (n+1) c') af;rw[<-hZ]at fA bA gA X1';have X2':=X2.T gA;have HZ:=du CZ X1' X2';have M:=gI (S9.T gA) (dh.T N9 gA) fA bA;have zZ:U w.heap+3<U Z.heap+1:=by have:=X2'.1;have:=fA.1;have h9:=R.1;have:=gA.1;omega
 go_wp2_with fail;rw[<-hZ];let⟨vA,dr⟩:=aG Z.drew;have cR:=lG dr;have D:=du (HZ.1.H af cR) (HZ.2.1.H cR) (HZ.2.2.H cR);have BA:=ag cR;refine fk (λw'=>I w' (Aw w 0)=dU e/\I w' (Aw w 1)=dU g/\I w' (Aw w 2)=dU (x+1)/\I w' (Aw w 3)=dI t/\I w' (Aw w 4)=dS p' (n+1) c'/\I w' (Aw w 5)=dS q m d) (by rw[<-dr];exact⟨D.1.1 0 _ rfl,D.1.1 1 _ rfl,D.1.1 2 _ rfl,D.1.1 3 _ rfl,D.1.1 4 _ rfl,D.1.1 5 _ rfl⟩) λhS=>?_;rw[<-dr]at hS⊢;clear dr cR;refine iC 0 1 2 3 hS ?_;refine tn 4 hS ?_;refine ew 5 λKK hK=>?_;let⟨k0,k1,k2,k3,k4,k5,kf⟩:=D.2.1.cells;go_simp;let⟨X,hX⟩:=aG (gu vA (U w.heap+1) (.U e) (.U g) (.U (x+1)) (.I t) (.S p' (n+1) c') (.S q m d));have bX:Below (U w.heap+1) vA X:=hX▸tR _ _ _ _ _ _ _;have mH:=D.2.1.put (.U e) (.U g) (.U (x+1)) (.I t) (.S p' (n+1) c') (.S q m d);have N:=ak4 D.1 (b:=U w.heap+1) af (v0:=.U e) (v1:=.U g) (v2:=.U (x+1)) (v3:=.I t) (v4:=.S p' (n+1) c') (v5:=.S q m d);have fX:Fr [41] vA X:=by obtain⟨-,cur,ht⟩:=D.2.1;rw[hX];exact vx ht
 rw[<-hX]at mH N;have GP:=D.2.2.T fX;unfold gu at hX;rw[<-hX];have HX:=mX mH N GP fX bX;refine bL hK (by exact⟨N.1 0 _ rfl,N.1 1 _ rfl,N.1 2 _ rfl,N.1 3 _ rfl,N.1 4 _ rfl,N.1 5 _ rfl⟩) λhS=>?_;clear hK KK hX k0 k1 k2 k3 k4 k5 kf mH N GP fX bX;refine ew 6 λKK hK=>?_;let⟨k0,k1,k2,k3,k4,k5,k6,k7,kf⟩:=HX.2.2.1.cells;go_simp;let⟨Es,fY⟩:=HX.2.2.1.put (.I 0) (.U (x+1)) (.U 0) (.U 0) (.I (t+10)) aO aO aO;have bY:=tQ (w:=X) (b:=U w.heap+1+1) (v0:=.I 0) (v1:=.U (x+1)) (v2:=.U 0) (v3:=.U 0) (v4:=.I (t+10)) (v5:=aO) (v6:=aO) (v7:=aO);let⟨iY,hY⟩:=aG (nw X (U w.heap+1+1) (.I 0) (.U (x+1)) (.U 0) (.U 0) (.I (t+10)) aO aO aO);rw[<-hY]at Es fY bY;unfold nw gu at hY;rw[<-hY];have CY:=HX.2.1.de (bY.block _ af);have BY:=gI (HX.1.T fY) Es ((Fr.H (T:=[41,47]) BA).Z ((HX.2.2.2.1.sub aj).Z (fY.sub aj))) ((BA.h af).Z ((HX.2.2.2.2.h (Ua _)).Z (bY.h af)));refine bL hK (by exact⟨CY.1 0 _ rfl,CY.1 1 _ rfl,CY.1 2 _ rfl,CY.1 3 _ rfl,CY.1 4 _ rfl,CY.1 5 _ rfl⟩) λhS=>?_;clear hK KK hY k0 k1 k2 k3 k4 k5 k6 k7 kf Es fY bY CY;refine fy ?_;clear hS;let⟨au,qc,f1,I0⟩:=ae BY;have HQ:=ag (QR.num (e:=e) (g:=g) (x:=x+1) (t:=t) (ag (by rw[dm,ae W];rfl)) em M.1 M.2.1 M.2.2.1 M.2.2.2 f1 I0 hB 0 (x+1) 0 0 (t+10));clear f1 I0;let⟨q0,q1,q2,q3,q4,q5,qf⟩:=au.cells;let⟨r0,r1,r2,r3,r4,r5,r6,r7,rf⟩:=qc.cells;go_wp2;exact cg (v:=dT #[bS e g (x+1) t (.S p' (n+1) c') (.S q m d),gG 0 (x+1) 0 0 (t+10) aO aO aO]) (by simp[results,results100,go_sem,q0,q1,q2,q3,q4,q5,r0,r1,r2,r3,r4,r5,r6,r7]) rfl HQ}}
def CD(K S F:Int)(i nv:Nat)(E iG:Int):Bool:=if 1<=K/\K<=13 then qR K.toNat S F i nv E iG else dF
def DT(K:Int):Bool:=!(K==1)&&(!(K==6)&&!(K==13))
def dK0(D:SD)(i:Nat):SD×RP:=match D.E[i]? with
 |none=>(D,js)
 |some s=>if s.2.1<D.t+10 then({D with E:=D.E.set i (s.1,D.t+10,s.2.2)},{js with n:=D.t+10})else(D,{js with n:=s.2.1})
def dt5(D:SD)(i:Nat):SD×RP:=match D.E[i]? with
 |none=>(D,js)
 |some s=>({D with E:=D.E.set i (s.1,s.2.1,[])},{js with rZ:=s.2.2})
def xK(ns:List ar)(P:LI):Int:=match ns.findIdx? (λj=>dD (j.A=P))with
 |some i=>i
 |none=>-1
def BQ(K:Int)(P:LI):Bool:=dD (K=13)&&dD (P=[47])
def JH(D:SD)(K S F E iG:Int)(P V:LI):SD×RP:=
 if(!BQ K P&&!vp P)then(D,ni 4)
 else if K=4 then IY D P V S F
 else if K=10 then(D,{js with n:=eE8 D.N P S E iG})
 else if(!BQ K P&&dD (xK D.N P<0))then(D,ni 5)
 else if K=13 then(D,{js with nms:=ta D.N P})
 else Ht D (xK D.N P).toNat K S F V
def mW(D:SD)(K S F E iG:Int)(P V:LI):SD×RP:=
 if CD K S F (J P) (J V) E iG=dF then(D,ni 2)
 else if K=1 then yO D
 else if(DT K&&dD (lW D.E S<0))then(D,ni 3)
 else if K=2 then dK0 D (lW D.E S).toNat
 else if K=3 then(jS D S,js)
 else if K=12 then dt5 D (lW D.E S).toNat
 else JH D K S F E iG P V
def PD(ns:List ar):Prop:=∀(i j:Nat)(a b:ar),ns[i]?=a->ns[j]?=b->a.A=b.A->i=j
structure WF(D:SD):Prop where
 g:0<=D.g/\D.g<=2^62
 x:0<=D.x/\D.x<=2^62
 t:0<=D.t/\D.t<=1000000
 nb:NB D.N
 pb:PPB D.N
 vl:∀nd∈D.N,J nd.V<=1048576
 ex:∀nd∈D.N,nd.M=1->nd.y≠[]
 pd:PD D.N
def ek0{B:Bool}(i:O (CD K S F np nv E iG=B)):Cp 99 #[qZ K S (.S pp np cp) F (.S pq nv cv) E iG] w (Rb (.bool B) w):=by
 by_cases h:1<=K/\K<=13;{obtain⟨k,rfl⟩:∃k:Nat,K=(k:Int):=⟨K.toNat,af⟩;have e:=ae i;rw[CD,aM h,uC]at e;exact cv5 af af (ag e)};{have e:=ae i;rw[CD,aL h]at e;subst e;exact cv4 af}
def dQ3:dQ dG 102 #[.I K] w λr w'=>r=dR (.bool (DT K))/\w'=w:=by
 by_cases j:K=1;{subst j;go_in;go_wp2;go_ret;exact⟨rfl,rfl⟩};{
 by_cases i:K=6;{subst i;go_in;go_wp2;go_ret;exact⟨rfl,rfl⟩};{
 by_cases m:K=13;{subst m;go_in;go_wp2;go_ret;exact⟨rfl,rfl⟩};{
 have e:DT K:=by simp[DT,j,i,m]
 rw[e];have s:(K != 1):=by simp[j]
 have q:(K != 6):=by simp[i]
 have o:(K != 13):=by simp[m]
 go_in;go_wp2;go_ret;exact⟨rfl,rfl⟩}}}
def dB3(j:PD ns)(h:ns[k]?=Y nd)(m:jW ns P=Y nd):xK ns P=k:=by
 have e:nd.A=P:=by have:=Xp m;simpa using this
 have:ns.findIdx? (λnd=>dD (nd.A=P))=k:=by
  rw[Md];let⟨q,o⟩:=bg.1 h;refine⟨q,by rw[o];simp[e],λi s hc=>?_⟩;have r:ns[i].A=P:=by simpa using hc
  have:=j i k _ _ (bD af) h (r.Z e.C);omega
 rw[xK,this]
def bZ5(m:jW ns P=dN):xK ns P=-1:=by
 have:ns.findIdx? (λi=>dD (i.A=P))=dN:=by rw[Xk];intro x j;have:=Xo.1 m x j;simpa using this
 rw[xK,this]
theorem dB4(h:¬xK ns P<0):∃(k:Nat)(nd:ar),xK ns P=k/\ns[k]?=Y nd:=by
 unfold xK at h⊢;cases hf:ns.findIdx? (λnd=>dD (nd.A=P))with
 |none=>rw[hf]at h;simp at h
 |some k=>
  obtain⟨i,-⟩:=Md.1 hf;exact⟨k,_,rfl,bD i⟩
theorem dm5(h:¬lW ss S<0):∃(k:Nat)(s:aB),lW ss S=k/\ss[k]?=Y s:=by
 unfold lW at h⊢;cases hf:ss.findIdx? (λs=>s.1==S)with
 |none=>rw[hf]at h;simp at h
 |some k=>
  obtain⟨i,-⟩:=Md.1 hf;exact⟨k,_,rfl,bD i⟩
def dA0{S:dV}(B:Le ns n)(D:Le l m)(h:gJ w (.S p n c) ns)(u:Rd w (.S q m d) l)(s:Mg n)(hm:m<=2097152)(E:O (aC l/\∀nd∈ns,aC nd.A))(o:PD ns):Cp 107 #[bS e g x t S (.S p n c),.S q m d] w (Rb (.I (xK ns l)) w):=by
 refine(aY9 B D h u s hm E).h ?_;rintro r M⟨⟨k,nd,rfl,-,i,y⟩|⟨rfl,i⟩,j⟩;{exact⟨by rw[dB3 o i y],j⟩};{exact⟨by rw[bZ5 i],j⟩}
def bL1:(jV D k kd).e=D.e/\(jV D k kd).g=D.g/\(jV D k kd).x=D.x/\(jV D k kd).t=D.t:=by
 unfold jV;split<;>exact⟨rfl,rfl,rfl,rfl⟩
def ex8{id:Int}:(jR D k id).e=D.e/\(jR D k id).g=D.g/\(jR D k id).x=D.x/\(jR D k id).t=D.t:=by
 unfold jR;split;{exact⟨rfl,rfl,rfl,rfl⟩};{split;{split;{exact bL1};{exact⟨rfl,rfl,rfl,rfl⟩}};{exact⟨rfl,rfl,rfl,rfl⟩}}
theorem bs7(id:Int):∀(f k:Nat)(D:SD),(mB id f k D).e=D.e/\(mB id f k D).g=D.g/\(mB id f k D).x=D.x/\(mB id f k D).t=D.t
 |0,k,D=>by unfold mB;exact⟨rfl,rfl,rfl,rfl⟩
 |f+1,k,D=>by have j:=ex8 (D:=D) (k:=k) (id:=id);unfold mB;split;{exact⟨rfl,rfl,rfl,rfl⟩};{split;{have i:=bs7 id f k (xH (jV (jR D k id) k 2) k);have m:=bL1 (D:=jR D k id) (k:=k) (kd:=2);exact⟨i.1.Z (m.1.Z j.1),i.2.1.Z (m.2.1.Z j.2.1),i.2.2.1.Z (m.2.2.1.Z j.2.2.1),i.2.2.2.Z (m.2.2.2.Z j.2.2.2)⟩};{have i:=bs7 id f (k+1) (jR D k id);exact⟨i.1.Z j.1,i.2.1.Z j.2.1,i.2.2.1.Z j.2.2.1,i.2.2.2.Z j.2.2.2⟩}}
def eD8{id:Int}:(jS D id).e=D.e/\(jS D id).g=D.g/\(jS D id).x=D.x/\(jS D id).t=D.t:=bs7 id _ _ _
def qS(k:Int):dV:=if k=0 then .nilIface else .iface 171 (.agg #[.I k])
def cZ8(i:v=.agg #[]):dQ dG 338 #[v,pt] w (Rb (qS 0) w):=by
 subst i;go_in;go_wp2;go_ret;exact⟨rfl,aD.alloc aA _⟩
def JL(D:SD):Int:=if 50<=J D.E then 11 else if 4611686018427387904<=D.x then 12 else 0
def dx4{SB NB HB UB:iN}(h:O (PS w0 w b bs bn D SB NB HB UB))(S:O (JL D=C)):dQ dG 337 #[.agg #[],Pz b] w (Rb (qS C) w):=by
 obtain⟨-,-,R,-,N,-,-⟩:=h.nJ;let⟨M,n,o,X,m,y⟩:=h.tJ;have W:=λ(j:Obj)=>al R ((aR (U w.heap) w).alloc aA j);have V:=λ(j:Obj)=>al N ((aR (U w.heap) w).alloc aA j);have i:=λ(j:Obj)=>(o.alloc j).len underlying178 3;rw[y]at i;have e:=ae S;unfold JL at e;let⟨r,u⟩:=aY (J D.E);rw[u]at i e;clear o m y u;by_cases B:50<=r;{have s:=gm 50 r;rw[aM B]at e;subst e;go_in;go_wp2;go_ret;exact⟨rfl,aD.alloc aA _⟩};{
 have s:¬(50:Int)<=(r:Int):=af;rw[aL B]at e;by_cases q:4611686018427387904<=D.x;{
 have E:dD (4611686018427387904<=D.x):=by simpa using q
 rw[aM q]at e;subst e;go_in;go_wp2;go_ret;exact⟨rfl,aD.alloc aA _⟩};{
 have E:dD (4611686018427387904<=D.x)=dF:=by simpa using q
 rw[aL q]at e;subst e;go_in;go_wp2;go_ret;exact⟨rfl,aD.alloc aA _⟩}}
def PS.rest{SB NB HB UB:iN}(h:PS w0 w b bs bn D SB NB HB UB)(hb:Below (U w0.heap) w w')(hk:∀y,y<U w.heap->y≠z->w'.heap[y]?=w.heap[y]?)(E:∃m,w.heap[z]?=dO cs ty m)(ht:ty∉[97,186,181,5,119]):PS w0 w' b bs bn D SB NB HB UB:=by
 obtain⟨mz,E⟩:=E;simp only[fU,Pe,Ib,Hw]at ht;obtain⟨t1,t2,t3,t4,t5⟩:=ht;have hf:Fr [ty] w w':=⟨hb.size,λy cur N m' hn i=>by by_cases e:y=z;{subst e;rw[E]at i;simp at i;exact absurd (by rw[i.2.1];simp) hn};{exact(hk y (sF i) e).Z i}⟩
 have nc:∀{y:Nat}{S:iA}{N:TypeId},w.heap[y]?=dO S N->ty≠N->w'.heap[y]?=dO S N:=λ{y S N}i Ut=>(hk y (gy i) (λe=>by rw[e,E]at i;simp at i;exact Ut i.2.1)).Z i
 have nm:∀{k:TypeId}{R:dV->Option (DataW Unit×List MemPlace)}{y n:Nat}{M:DataW Unit},w.ownsMap dG k R y n M->w'.ownsMap dG k R y n M:=λo=>aQ6 o (λes c x=>(hk _ (gy x) (λe=>by rw[e,E]at x;cases x)).Z x)
 have ab:∀{v:dV}{l:LI},AB w0 w v l->AB w0 w' v l:=λq=>q.T hf (by simp;exactλe=>t4 e.C);have sm:∀{y:Nat}{s:LI},SM w y s->SM w' y s:=λ⟨M,n,o,r⟩=>⟨M,n,nm o,r⟩;refine⟨h.be.Z hb,nc h.hd t3,h.ur,?_,λj s1 g1 fo dw=>?_,h.snd,h.vG,h.hlen,h.vZ,?_,λj nd gb x uu fo dw h1 h2=>?_,h.Fm,h.lo,h.ve⟩;{let⟨M,n,o,r⟩:=h.tJ;exact⟨M,n,nm o,r⟩};{let⟨Z,u,X,W⟩:=h.vz j s1 g1 fo dw;exact⟨Z,u,nc X t1,W.T hb hf (by simp;exact⟨λe=>t4 e.C,λe=>t5 e.C⟩)⟩};{let⟨M,n,o,r⟩:=h.pX;exact⟨M,n,nm o,r⟩};{let⟨Z,⟨V,X,W⟩,q3,q4⟩:=h.qK j nd gb x uu fo dw h1 h2;exact⟨Z,⟨V,nc X t2,ab W⟩,sm q3,sm q4⟩}
variable {l:List Oper}
def LH{id:Nat}{Q:iE}(i:Region.lexB .any l.toArray)(h:∀W,W=w.drew->wpStill dG l.toArray W (λj=>Q .normal j W) l a):(Code.region id l.toArray dY).wp dG Q a w:=wp_region_still_lit (by kernel_rfl) i (h _ rfl)
def yI{id:Nat}{Q:iE}(n:Nat)(i:Region.lexTailB .any l.toArray n)(h:∀W,W=w.drew->wpStill dG l.toArray W (λj=>wpList dG l.toArray Q (l.drop n) j W) (l.take n) a):(Code.region id l.toArray dY).wp dG Q a w:=wp_region_still_tail n (by kernel_rfl) i (h _ rfl)
def PS.rep{SB NB HB UB:iN}(h:PS w0 w b bs bn D SB NB HB UB)(j:RX w z vs)(i:U w0.heap<=z)(v0 v1 v2 v3 v4 v5 v6 v7:dV):PS w0 (nw w z v0 v1 v2 v3 v4 v5 v6 v7) b bs bn D SB NB HB UB:=by
 obtain⟨-,m,hc⟩:=j;exact h.rest ((tQ).h i) (λy _ o=>ak2 o) ⟨_,hc⟩ bf
def aB5(w:G)(cs:iA)(ty:TypeId):∃X i,X=w.alloc (dO cs ty)/\i=X.alloc (dO #[.I 0,.U 0,.U 0,.U 0,.I 0,aq,aq,aq] 47)/\Bw w i/\U X.heap=U w.heap+1/\U i.heap=U w.heap+2/\aQ i (U w.heap) cs.toList/\RX i (U w.heap+1) [.I 0,.U 0,.U 0,.U 0,.I 0,aq,aq,aq]:=by
 let⟨X,r,s,j,u,y⟩:=bQ w cs ty;let⟨i,q,m,x,o⟩:=xt X (.I 0) (.U 0) (.U 0) (.U 0) (.I 0) aq aq aq;rw[j]at o;exact⟨X,i,r,q,ai s m,j,af,u.de (m.block _ af),o⟩
def WJ{Z:G}(D:O (RX Z z [o0,o1,o2,o3,o4,o5,o6,o7]))(hf:fn.results=#[.cell 4 47])(B:a.tmps.getD 4 undef=Pz z)(y:a.defers=[])(E:R (dR (.agg #[v0,v1,v2,v3,v4,v5,v6,v7])) (nw Z z v0 v1 v2 v3 v4 v5 v6 v7)):bodyPost dG fn R .ret a (nw Z z v0 v1 v2 v3 v4 v5 v6 v7):=by
 obtain⟨x,u,s,r,q,o,m,j,-⟩:=(D.put v0 v1 v2 v3 v4 v5 v6 v7).1.cells;generalize nw Z z v0 v1 v2 v3 v4 v5 v6 v7=W at*;refine cg (v:=.agg #[v0,v1,v2,v3,v4,v5,v6,v7]) ?_ y E;have i:=B;simp only[cb0]at i;simp[results,hf,go_sem,i,x,u,s,r,q,o,m,j]
def rpn(R:RP):dV:=gG R.k R.i R.e R.g R.n aq aq aq
def uq(w0 w:G)(b bs bn:Nat)(D:SD)(SB NB HB UB:iN)(R:RP)(r:Ending)(w':G):Prop:=PS w0 w' b bs bn D SB NB HB UB/\Fr T3 w w'/\r=dR (rpn R)
def Tv{w0 w Z:G}{SB NB HB UB:iN}{R:RP}(q:O (PS w0 Z b bs bn D SB NB HB UB))(r:O (Fr T3 w Z))(i:O (RX Z (U w.heap+1) [o0,o1,o2,o3,o4,o5,o6,o7]))(s:U w0.heap<=U w.heap)(hf:fn.results=#[.cell 4 47])(m:a.tmps.getD 4 undef=Pz (U w.heap+1))(j:a.defers=[])(o:rpn R=.agg #[v0,v1,v2,v3,v4,v5,v6,v7]):bodyPost dG fn (uq w0 w b bs bn D SB NB HB UB R) .ret a (nw Z (U w.heap+1) v0 v1 v2 v3 v4 v5 v6 v7):=
 WJ i hf m j ⟨PS.rep q i af _ _ _ _ _ _ _ _,r.low ((tQ (w:=Z) (b:=U w.heap+1) (v0:=v0) (v1:=v1) (v2:=v2) (v3:=v3) (v4:=v4) (v5:=v5) (v6:=v6) (v7:=v7)).h af),by rw[o]⟩
def cZ7{SB NB HB UB:iN}(h:O (PS w0 w b bs bn D SB NB HB UB))(s:O (D.N[k]?=nd))(E:O (rF D.E))(y:O (NT D.E nd)){id:Int}(i:0<=id/\id<2^64)(V:O (nd.y.Pairwise (·<·)))(R:J nd.y<=1048576)(S:O (nd.y.contains id)):dQ dG 358 #[.agg #[.U id,.string (aZ nd.A)],Pz b] w (uq w0 w b bs bn (jR D k id) SB NB HB UB js):=by
 let⟨X,iY,x,u,m,zX,zY,CY,N⟩:=aB5 w #[.U id,.string (aZ nd.A)] 320;go_in;go_wp2_with fail;rw[<-x,<-u];refine(dq3 (h.H m) s E y i V R S).h ?_;rintro r Z⟨j,hF,v,rfl⟩;have o:=N.T hF;have r0:=o.cells;replace j:=ag j;have W:=ag ((Fr.H (T:=T3) m).Z hF);have M:=ag o;have q:=h.be.size;go_wp2;exact Tv j W M q aU rfl rfl rfl
def ey9{SB NB HB UB:iN}(h:O (PS w0 w b bs bn D SB NB HB UB))(q:O (D.N[k]?=nd))(y:O (rF D.E))(x:O (NT D.E nd))(E:O (KD D.N)){id:Int}:dQ dG 350 #[.agg #[.U id,.string (aZ nd.A)],Pz b] w (uq w0 w b bs bn (xH (jV D k 2) k) SB (NB.eraseIdx k) (HB.eraseIdx k) (UB.eraseIdx k) js):=by
 let⟨X,iY,u,s,j,V,S,CY,N⟩:=aB5 w #[.U id,.string (aZ nd.A)] 313;go_in;go_wp2_with fail;rw[<-u,<-s];refine(dq2 (h.H j) q y x E).h ?_;rintro r Z⟨i,hF,v,rfl⟩;have m:=N.T hF;have W:=m.cells;replace i:=ag i;have R:=ag ((Fr.H (T:=T3) j).Z hF);have M:=ag m;have o:=h.be.size;go_wp2;exact Tv i R M o aU rfl rfl rfl
def PS.LO{SB NB HB UB:iN}(h:PS w0 w b bs bn D SB NB HB UB)(hi:D.N[i]?=nd)(u:J nd.A<=1048576):∃g hh uu V,NB[i]?=Y g/\HB[i]?=Y hh/\UB[i]?=Y uu/\g<U w.heap/\hh<U w.heap/\uu<U w.heap/\U w0.heap<=g/\∀W,Bw w W->I W (Ad b 5)=Y (.map bn)/\(Instr.lookup 179 (.map bn) (.string (aZ nd.A)) dF).run dG W=.ok (Pz g) W/\PN w0 W g hh uu nd/\W.heap[g]?=dO #[V,.U nd.D,.I nd.M,.map (Y hh),.U nd.P,.U nd.F,.map (Y uu)] 186:=by
 obtain⟨g,hh,uu,hg,iS,iV,o,-⟩:=h.XC hi u;obtain⟨V,q,-⟩:=o.blk;let⟨es,c,m3⟩:=o.AV.at;let⟨Z,X,m4⟩:=o.yE.at;refine⟨g,hh,uu,V,hg,iS,iV,gy q,gy m3,gy m4,o.lo.1,λW x=>?_⟩;have y:=h.H x;obtain⟨-,-,-,-,-,N,-⟩:=y.nJ;let⟨S,R,B,r,j,m,E,M⟩:=y.XC hi u;rw[hg]at r;rw[iS]at j;rw[iV]at m;cases r;cases j;cases m;exact⟨N,M,E,(x.block g (gy q)).Z q⟩
def dk3{SB NB HB UB:iN}(h:O (PS w0 w b bs bn D SB NB HB UB))(hk:O (D.N[k]?=nd))(hS:O (rF D.E))(hT:O (NT D.E nd)){id:Int}(hV:O (AB w0 w (.S pv nv cv) V)):dQ dG 354 #[.agg #[.U id,.string (aZ nd.A),.S pv nv cv],Pz b] w (uq w0 w b bs bn (jV {D with N:=D.N.set k {nd with V:=V}} k 1) SB NB HB UB js):=by
 obtain⟨g,hh,uu,V0,hg,iS,iV,gl,-,-,g0,hW⟩:=h.LO hk hT.pl;let⟨X,iY,hX,hY,bY,zX,zY,CY,RY⟩:=aB5 w #[.U id,.string (aZ nd.A),.S pv nv cv] 317;have HW:=ag hW;clear hW;go_in;go_wp2_with fail;rw[<-hX,<-hY];refine yI 12 aU (λW eW=>?_);have bW:Bw w W:=eW▸bY.drew;let⟨k5,kl,kN,kb⟩:=ae HW W bW;have c1:I W (Aw w 1)=Y (.string (aZ nd.A)):=eW▸CY.1 1 _ rfl;have c2:I W (Aw w 2)=dS pv nv cv:=eW▸CY.1 2 _ rfl;have RW:=RY.H (w':=W) (eW▸aD.drew);have CW:=CY.de (w':=W) (by rw[eW];rfl);have vY:=h.be.size;have PW:=ag (h.H bW);have g0c:=cK kb 0;have gf:∀o,W.frozen? (Ad g o)=dF:=λo=>by simp[World.frozen?,kb]
 have KB:=ag kb;have KN:=ag kN;clear hX hY eW kb CY RY kN;simp only[yR,sY,xM,rI]
 repeat still_step
 refine qM ?_;let⟨Z,hZ⟩:=aG (W.setCell (Ad g 0) (.S pv nv cv));have vO:Z.heap[g]?=dO #[.S pv nv cv,.U nd.D,.I nd.M,.map hh,.U nd.P,.U nd.F,.map uu] 186:=by rw[hZ];simp[World.setCell,AK,ae KB]
 have bZ:Below g W Z:=by rw[hZ];exact aD.setCell (p:=(Ad g 0)) aA _
 have kZ:∀z,z<U W.heap->z≠g->Z.heap[z]?=W.heap[z]?:=λz _ aN=>by rw[hZ];exact fT _ _ _ _ (show z≠_ from aN)
 have iO:=One.JM PW.be bZ KB g0 aj kZ;have PZ:=ag (PW.WY hk hg iS iV iO _ V nd.D nd.M nd.P nd.F vO ((hV.T (bH bW) aj).T iO.T));have RZ:=RW.T iO.T;have zz:U w.heap<U W.heap:=aK (sF RW.2.choose_spec);have d1:I Z (Aw w 1)=Y (.string (aZ nd.A)):=(CW.de (kZ _ zz af)).1 1 _ rfl;have FZ:=ag ((Fr.H (T:=T3) bW).Z iO.T);have Ge:=ag (tA hk {nd with V:=V});clear vO bZ kZ iO RW CW KB KN;go_wp2_with fail;rw[<-hZ];refine(db7 PZ (k:=k) {nd with V:=V} Ge 1 hS (ag ⟨hT.Vq,hT.pl,hT.Oo,hT.Oq,hT.Te⟩)).h ?_;rintro r iU⟨PU,hF,v,rfl⟩;have RU0:=RZ.T hF;have r0:=RU0.cells;replace PU:=ag PU;have FU:=ag (FZ.Z hF);have RU:=ag RU0;clear RU0 hF RZ d1 hZ;go_wp2;exact Tv PU FU RU vY aU rfl rfl rfl
def fj6(w:G)(b bs bn:Nat)(D:SD)(SB NB HB UB:iN)(h:O (PS w0 w b bs bn D SB NB HB UB))(k:Nat)(nd:ar)(hk:O (D.N[k]?=nd))(jE:J nd.A<=1048576)(rO:O (nd.X.Pairwise (·<·)))(xU:O (J nd.X<=1048576))(id:Int)(hid:0<=id/\id<2^64):dQ dG 361 #[.agg #[.U id,.string (aZ nd.A)],Pz b] w (uq w0 w b bs bn {D with N:=D.N.set k {nd with X:=mh nd.X id}} SB NB HB UB js):=by
 obtain⟨g,hh,uu,V0,hg,iS,iV,gl,-,ul,g0,hW⟩:=h.LO hk jE;let⟨X,iY,hX,hY,bY,zX,zY,CY,RY⟩:=aB5 w #[.U id,.string (aZ nd.A)] 324;have HW:=ag hW;clear hW;have fh:=keyOf_int_mk underlying27 (Dx hid);go_in;go_wp2_with fail;rw[<-hX,<-hY];refine yI 15 aU (λW eW=>?_);have bW:Bw w W:=eW▸bY.drew;let⟨k5,kl,kN,kb⟩:=ae HW W bW;have c0:I W (Aw w 0)=dU id:=eW▸CY.1 0 _ rfl;have c1:I W (Aw w 1)=Y (.string (aZ nd.A)):=eW▸CY.1 1 _ rfl;have RW:=RY.H (w':=W) (eW▸aD.drew);have vY:=h.be.size;have PW:=ag (h.H bW);have g6:=cK kb 6;let⟨M,n,o,hn,hs,hz⟩:=kN.yE;have o':=Hq o;rw[hz]at o';let⟨Z,fS,ho,qd⟩:=o'.update mr underlying158 (by have:=ae xU;unfold maxLen;omega) (val:=.agg #[]) fh unitElem_mk;have iO:=One.DA PW.be qd kN.lo.2.2 (ownsMap_at o');have SZ:=SM.put (w:=W) hs o'.isMap rO (aK (ae xU)) ho;have PZ:=ag (PW.yE hk hg iS iV iO SZ);have Df:=RW.T iO.T;have r0:=Df.cells;have FZ:=ag ((Fr.H (T:=T3) bW).Z iO.T);have RZ:=ag Df;clear hX hY eW kb CY RY kN iO SZ ho qd o o' hs hz Df RW;simp only[yR,sY,xM,rI]
 repeat still_step
 refine qM ?_;go_wp2;exact Tv PZ FZ RZ vY aU rfl rfl rfl
def cZ6{SB NB HB UB:iN}(h:O (PS w0 w b bs bn D SB NB HB UB))(S:O (D.N[k]?=nd))(R:J nd.A<=1048576){id:Int}(j:0<=id/\id<2^64)(V:O ((if nd.y.contains id then 0 else 10)=C)):dQ dG 359 #[.agg #[.U id,.string (aZ nd.A)],Pz b] w (Rb (qS C) w):=by
 obtain⟨g,hh,uu,V0,hg,iS,iV,gl,-,ul,g0,s⟩:=h.LO S R;obtain⟨X,r,bX,zX,m,-⟩:=bQ w #[.U id,.string (aZ nd.A)] 320;have HW:=ag s;clear s;go_in;go_wp2_with fail;rw[<-r];refine yI 11 aU (λW i=>?_);have x:Bw w W:=i▸bX.drew;let⟨N,E,o,M⟩:=ae HW W x;have c0:I W (Aw w 0)=dU id:=i▸m.1 0 _ rfl;have Z:I W (Aw w 1)=Y (.string (aZ nd.A)):=i▸m.1 1 _ rfl;have KN:=ag o;clear r i M m o;simp only[yR,sY,xM,rI]
 repeat still_step
 refine qM ?_;let⟨B,u⟩:=cG (nd.y.contains id);go_wp2_with fail;refine br (Kl KN j u) λw1 y=>?_;have q:=ag (ai x y);have e:=ae V;rw[ae u]at e;clear y c0 Z N E;cases B;{
 obtain rfl:C=10:=by rw[<-e];rfl
 go_wp2;go_ret;exact⟨rfl,q⟩};{
 obtain rfl:C=0:=by rw[<-e];rfl
 go_wp2;go_ret;exact⟨rfl,q⟩}
def aA2(D:SD)(nd:ar)(id:Int):Int:=if ta D.N nd.A≠[]then 8 else if xr nd id=dF then 9 else 0
def ey8{SB NB HB UB:iN}(h:O (PS w0 w b bs bn D SB NB HB UB))(rO:O ((D.N.map λnd=>jA nd.A).Pairwise (·<·)))(V:O (∀nd∈D.N,aC nd.A/\J nd.A<=1048576))(M:O (D.N[k]?=Y nd)){id:Int}(j:0<=id/\id<2^64)(eC:O (aA2 D nd id=C)):dQ dG 351 #[.agg #[.U id,.string (aZ nd.A)],Pz b] w (Rb (qS C) w):=by
 let⟨o,jE⟩:=ae V nd (bu (ae M));obtain⟨g,hh,uu,V0,hg,iS,iV,gl,-,ul,g0,hW⟩:=h.LO M jE;obtain⟨X,hX,Z,zX,CX,-⟩:=bQ w #[.U id,.string (aZ nd.A)] 313;have HW:=ag hW;have q:=ag o;have e:=ae eC;unfold aA2 at e;rw[dJ5]at e;let⟨L,R⟩:=cG (yX D.N nd.A);rw[ae R]at e;let⟨m,em⟩:=aY (J L);have E:=ag e;have s:=ag em;go_in;go_wp2_with fail;rw[<-hX];refine(eE6 (h.H Z) rO V q R).h ?_;rintro r w1⟨p,c,rfl,-,au⟩;rw[ae s];have u:=CX.de (w':=w1) (au.block _ af);have B1:=ag (ai Z au);by_cases N:m=0;{
 subst N;have hL:L=[]:=sX.1 s;have e2:(if xr nd id=dF then 9 else 0)=C:=by have:=ae E;rw[hL]at this;simpa using this
 have E2:=ag e2;go_wp2_with fail;refine yI 11 aU (λW i=>?_);have bW:Bw w W:=i▸B1.drew;let⟨k5,kl,y,kb⟩:=ae HW W bW;have c0:I W (Aw w 0)=dU id:=i▸u.1 0 _ rfl;have c1:I W (Aw w 1)=Y (.string (aZ nd.A)):=i▸u.1 1 _ rfl;have KN:=ag y;clear i kb u y;simp only[yR,sY,xM,rI]
 repeat still_step
 refine qM ?_;let⟨B,S⟩:=cG (xr nd id);go_wp2_with fail;refine br (ej6 KN j S) λw5 cY=>?_;have x:=ag (ai bW cY);have e:=ae E2;rw[ae S]at e;cases B;{
 obtain rfl:C=9:=by rw[<-e];rfl
 go_wp2;go_ret;exact⟨rfl,x⟩};{
 obtain rfl:C=0:=by rw[<-e];rfl
 go_wp2;go_ret;exact⟨rfl,x⟩}};{
 have QS:=qV 0 m;have e':C=8:=by have:=ae E;rw[aM (λe=>N (by rw[<-ae s];simpa using e))]at this;exact this.C
 subst e';go_wp2;go_ret;exact⟨rfl,B1⟩}
def WB(nd:ar)(id:Int):Int:=if nd.M=1/\nd.y.contains id=dF then 9 else 0
def dk1{SB NB HB UB:iN}(h:O (PS w0 w b bs bn D SB NB HB UB))(M:O (D.N[k]?=nd))(y:J nd.A<=1048576){id:Int}(j:0<=id/\id<2^64){V:dV}(R:O (WB nd id=C)):dQ dG 355 #[.agg #[.U id,.string (aZ nd.A),.S pv nv cv],Pz b] w (Rb (qS C) w):=by
 obtain⟨g,hh,uu,V0,hg,iS,iV,gl,-,ul,g0,N⟩:=h.LO M y;obtain⟨X,u,bX,zX,o,-⟩:=bQ w #[.U id,.string (aZ nd.A),.S pv nv cv] 317;have HW:=ag N;go_in;go_wp2_with fail;rw[<-u];refine LH aU (λW i=>?_);have m:Bw w W:=i▸bX.drew;let⟨k5,kl,s,r⟩:=ae HW W m;have c0:I W (Aw w 0)=dU id:=i▸o.1 0 _ rfl;have c1:I W (Aw w 1)=Y (.string (aZ nd.A)):=i▸o.1 1 _ rfl;have KN:=ag s;have g2:=cK r 2;clear u i r o s
 repeat still_step
 refine qM ?_;have e:=ae R;unfold WB at e;by_cases hm:nd.M=1;{
 have FQ:(nd.M==1):=by simp[hm]
 let⟨B,x⟩:=cG (nd.y.contains id);rw[ae x]at e;have E:=ag (by simpa[hm]using e:(if B=dF then 9 else 0)=C);go_wp2_with fail;refine br (Kl KN j x) λw5 Z=>?_;have q:=ag (ai m Z);have e:=ae E;cases B;{
 obtain rfl:C=9:=by rw[<-e];rfl
 go_wp2;go_ret;exact⟨rfl,q⟩};{
 obtain rfl:C=0:=by rw[<-e];rfl
 go_wp2;go_ret;exact⟨rfl,q⟩}};{
 have FQ:(nd.M==1)=dF:=by simp[hm]
 obtain rfl:C=0:=by rw[<-e];simp[hm]
 go_wp2;go_ret;exact⟨rfl,m⟩}
def xO(D:SD)(nd:ar)(id F:Int):Int:=if nd.y.contains id then 9 else if F=2 then(if nd.M=1 then 9 else 0)else if nd.M≠0 then 9 else if 4611686018427387904<=D.g then 12 else 0
def dE4{SB NB HB UB:iN}(h:O (PS w0 w b bs bn D SB NB HB UB))(hk:O (D.N[k]?=nd))(jE:J nd.A<=1048576){id:Int}(o:0<=id/\id<2^64)(hF:F=1\/F=2)(x:O (xO D nd id F=C)):dQ dG 357 #[.agg #[.U id,.string (aZ nd.A),.I F],Pz b] w (Rb (qS C) w):=by
 obtain⟨g,hh,uu,V0,hg,iS,iV,gl,-,ul,g0,hW⟩:=h.LO hk jE;obtain⟨X,hX,bX,zX,V,-⟩:=bQ w #[.U id,.string (aZ nd.A),.I F] 319;have HW:=ag hW;have HF:=ag hF;go_in;go_wp2_with fail;rw[<-hX];refine LH aU (λW u=>?_);have r:Bw w W:=u▸bX.drew;let⟨k5,kl,kN,kb⟩:=ae HW W r;obtain⟨-,s,-⟩:=(h.H r).nJ;have c0:I W (Aw w 0)=dU id:=u▸V.1 0 _ rfl;have c1:I W (Aw w 1)=Y (.string (aZ nd.A)):=u▸V.1 1 _ rfl;have y:I W (Aw w 2)=dI F:=u▸V.1 2 _ rfl;have KN:=ag kN;have g2:=cK kb 2;clear hX u kb V kN
 repeat still_step
 refine qM ?_;obtain Z|Z:=ae HF;{
 subst Z;by_cases hm:nd.M=0;{
 have q:=ag hm;have M:(nd.M==1)=dF:=by simp[hm]
 have m0:(nd.M != 0)=dF:=by simp[hm]
 let⟨B,m⟩:=cG (nd.y.contains id);go_wp2_with fail;refine br (Kl KN o m) λE i=>?_;have R:=al y i;have S:=al s i;have j:=ag (ai r i);have e:=ae x;unfold xO at e;rw[ae m]at e;cases B;{
 by_cases N:4611686018427387904<=D.g;{
 have yY:dD (4611686018427387904<=D.g):=by simpa using N
 obtain rfl:C=12:=by rw[<-e];simp[ae q,N]
 go_wp2;go_ret;exact⟨rfl,j⟩};{
 have yY:dD (4611686018427387904<=D.g)=dF:=by simpa using N
 obtain rfl:C=0:=by rw[<-e];simp[ae q,N]
 go_wp2;go_ret;exact⟨rfl,j⟩}};{
 obtain rfl:C=9:=by rw[<-e];simp
 go_wp2;go_ret;exact⟨rfl,j⟩}};{
 have q:=ag hm;by_cases sC:nd.M=1;{
 have M:(nd.M==1):=by simp[sC]
 let⟨B,m⟩:=cG (nd.y.contains id);go_wp2_with fail;refine br (Kl KN o m) λE i=>?_;have R:=al y i;have S:=al s i;have j:=ag (ai r i);have e:=ae x;unfold xO at e;rw[ae m]at e;cases B;{
 obtain rfl:C=9:=by rw[<-e];simp[ae q]
 go_wp2;go_ret;exact⟨rfl,j⟩};{
 obtain rfl:C=9:=by rw[<-e];simp
 go_wp2;go_ret;exact⟨rfl,j⟩}};{
 have M:(nd.M==1)=dF:=by simp[sC]
 have m0:(nd.M != 0):=by simp[hm]
 let⟨B,m⟩:=cG (nd.y.contains id);go_wp2_with fail;refine br (Kl KN o m) λE i=>?_;have R:=al y i;have S:=al s i;have j:=ag (ai r i);have e:=ae x;unfold xO at e;rw[ae m]at e;cases B;{
 obtain rfl:C=9:=by rw[<-e];simp[ae q]
 go_wp2;go_ret;exact⟨rfl,j⟩};{
 obtain rfl:C=9:=by rw[<-e];simp
 go_wp2;go_ret;exact⟨rfl,j⟩}}}};{
 subst Z;by_cases hm:nd.M=1;{
 have q:=ag hm;have M:(nd.M==1):=by simp[hm]
 let⟨B,m⟩:=cG (nd.y.contains id);go_wp2_with fail;refine br (Kl KN o m) λE i=>?_;have R:=al y i;have S:=al s i;have j:=ag (ai r i);have e:=ae x;unfold xO at e;rw[ae m]at e;cases B;{
 obtain rfl:C=9:=by rw[<-e];simp[ae q]
 go_wp2;go_ret;exact⟨rfl,j⟩};{
 obtain rfl:C=9:=by rw[<-e];simp
 go_wp2;go_ret;exact⟨rfl,j⟩}};{
 have q:=ag hm;have M:(nd.M==1)=dF:=by simp[hm]
 let⟨B,m⟩:=cG (nd.y.contains id);go_wp2_with fail;refine br (Kl KN o m) λE i=>?_;have R:=al y i;have S:=al s i;have j:=ag (ai r i);have e:=ae x;unfold xO at e;rw[ae m]at e;cases B;{
 obtain rfl:C=0:=by rw[<-e];simp[ae q]
 go_wp2;go_ret;exact⟨rfl,j⟩};{
 obtain rfl:C=9:=by rw[<-e];simp
 go_wp2;go_ret;exact⟨rfl,j⟩}}}
def ZW(w:G)(cs:iA)(ty:TypeId):∃X i,X=w.alloc (dO cs ty)/\i=X.alloc (dO #[.I 0,.U 0,.U 0,.U 0,.I 0,aq,aq,aq] 47)/\Bw w i/\U X.heap=U w.heap+1/\U i.heap=U w.heap+2/\i.heap[U w.heap]?=dO cs ty/\RX i (U w.heap+1) [.I 0,.U 0,.U 0,.U 0,.I 0,aq,aq,aq]:=by
 obtain⟨X,r,u,j,-,s⟩:=bQ w cs ty;let⟨i,q,m,x,o⟩:=xt X (.I 0) (.U 0) (.U 0) (.U 0) (.I 0) aq aq aq;rw[j]at o;exact⟨X,i,r,q,ai u m,j,af,(m.block _ af).Z s,o⟩
def dE5{SB NB HB UB:iN}(h:O (PS w0 w b bs bn D SB NB HB UB))(hk:O (D.N[k]?=nd))(jE:J nd.A<=1048576)(rO:O (nd.y.Pairwise (·<·)))(xU:O (J nd.y<=1048576)){id:Int}(hid:0<=id/\id<2^64)(he:O (nd.P=0/\nd.F=0)):dQ dG 356 #[.agg #[.U id,.string (aZ nd.A),.I 2],Pz b] w (uq w0 w b bs bn {D with N:=D.N.set k {nd with M:=2,y:=mh nd.y id}} SB NB HB UB js):=by
 obtain⟨g,hh,uu,V0,hg,iS,iV,gl,-,-,g0,hW⟩:=h.LO hk jE;let⟨X,iY,hX,hY,bY,zX,zY,BX,RY⟩:=ZW w #[.U id,.string (aZ nd.A),.I 2] 319;have HW:=ag hW;have Hd:=ag BX;have NJ:=ag RY;have IX:=du hg iS iV;have vY:=h.be.size;have fh:=keyOf_int_mk underlying27 (Dx hid);go_in;go_wp2_with fail;rw[<-hX,<-hY];refine LH aU (λW eW=>?_);have vf:=lG eW;let⟨k5,kl,kN,kb⟩:=ae HW W (ai bY vf);have FW:=ag (Fr.H (T:=T3) vf);have bx:=FW.2 _ _ _ _ bf Hd;have c1:=cK bx 1;have c2:=cK bx 2;have g2:=cK kb 2;have gf:∀o,W.frozen? (Ad g o)=dF:=λo=>by simp[World.frozen?,kb]
 have PW:=ag (h.H (ai bY vf));obtain⟨V',YW,aP,-⟩:=kN.cells;rw[kb]at aP;cases aP;have HV:=ag YW;have KB:=ag kb;clear hX hY eW kb kN bx YW vf
 repeat still_step
 refine qM ?_;let⟨Z,hZ⟩:=aG (W.setCell (Ad g 2) (.I 2));have vO:Z.heap[g]?=dO #[V0,.U nd.D,.I 2,.map hh,.U nd.P,.U nd.F,.map uu] 186:=by rw[hZ];simp[World.setCell,AK,ae KB]
 have bZ:Below g W Z:=by rw[hZ];exact aD.setCell (p:=(Ad g 2)) aA _
 have kZ:∀z,z<U W.heap->z≠g->Z.heap[z]?=W.heap[z]?:=λz _ aN=>by rw[hZ];exact fT _ _ _ _ (show z≠_ from aN)
 have iO:=One.JM PW.be bZ KB g0 aj kZ;have PZ:=ag (PW.WY hk IX.1 IX.2.1 IX.2.2 iO V0 nd.V nd.D 2 nd.P nd.F vO (HV.T iO.T));have FZ:=ag (FW.Z iO.T);clear bZ kZ iO vO;go_wp2_with fail;rw[<-hZ];clear hZ c1 c2 g2 gf k5 kl KB HV PW FW;refine yI 8 aU (λW1 ZA=>?_);have Rr:=lG ZA;have Sd:=ag (PZ.H Rr);have FW1:=ag (FZ.Z (Fr.H (T:=T3) Rr));have bx:=FW1.2 _ _ _ _ bf Hd;have c0:=cK bx 0;have iK:=tA hk {nd with M:=2}
 have kN:=Sd.qK k _ g hh uu iK IX.1 IX.2.1 IX.2.2;obtain⟨V1,-,-,-,-,-,n3,-⟩:=kN.cells;let⟨M,n,o,hn,hs,hz⟩:=kN.AV;have o':=Hq o;rw[hz]at o';let⟨Y2,fS,ho,qd⟩:=o'.update mr underlying158 (by have:=ae xU;show J nd.y<_;unfold maxLen;omega) (val:=.agg #[]) fh unitElem_mk;have O2:=One.DA Sd.be qd kN.lo.2.1 (ownsMap_at o');have SZ:=SM.put (w:=W1) hs o'.isMap rO (by have:=ae xU;show J nd.y+1<=_;omega) ho;have Bt:=Sd.AV iK IX.1 IX.2.1 IX.2.2 O2 SZ;simp only[ax5]at Bt;replace Bt:=ag Bt;have FY2:=ag (FW1.Z O2.T);have lx:=ag (tA hk {nd with M:=2,y:=mh nd.y id});have No:=FY2.2 _ _ _ _ bf Hd;have e2:=cK No 2;clear ZA kN O2 SZ ho qd o o' hs hz bx No iK Rr;simp only[yR,sY,xM,rI]
 repeat still_step
 refine qM ?_;go_wp2_with fail;clear fS c0 n3 e2;refine yI 9 aU (λW2 Ni=>?_);have Rt:=lG Ni;have Et:=ag (Bt.H Rt);have Jv:=FY2.Z (Fr.H (T:=T3) Rt);have Sa:=NJ.T Jv;have kN:=Et.qK k _ g hh uu lx IX.1 IX.2.1 IX.2.2;obtain⟨V1,-,-,-,-,-,-,n4,n5,-⟩:=kN.cells;simp only[he.1,he.2]at n4 n5;have r0:=Sa.cells;have FZ2:=ag ((Fr.H (T:=T3) bY).Z Jv);have RZ2:=ag Sa;clear Ni kN Jv Sa Rt;simp only[yR,sY,xM,rI]
 repeat still_step
 refine qM ?_;go_wp2;exact Tv Et FZ2 RZ2 vY aU rfl rfl rfl
def dE6{SB NB HB UB:iN}(h:O (PS w0 w b bs bn D SB NB HB UB))(hk:O (D.N[k]?=nd))(jE:J nd.A<=1048576)(rO:O (nd.y.Pairwise (·<·)))(xU:O (J nd.y<=1048576)){id:Int}(hid:0<=id/\id<2^64)(Iw:0<=D.g/\D.g<2^62):dQ dG 356 #[.agg #[.U id,.string (aZ nd.A),.I 1],Pz b] w (uq w0 w b bs bn {D with g:=D.g+1,N:=D.N.set k {nd with M:=1,y:=mh nd.y id,P:=D.e,F:=D.g+1}} SB NB HB UB {js with e:=D.e,g:=D.g+1}):=by
 obtain⟨g,hh,uu,V0,hg,iS,iV,gl,-,-,g0,hW⟩:=h.LO hk jE;let⟨X,iY,hX,hY,bY,zX,zY,BX,RY⟩:=ZW w #[.U id,.string (aZ nd.A),.I 1] 319;have HW:=ag hW;have Hd:=ag BX;have NJ:=ag RY;have IX:=du hg iS iV;have vY:=h.be.size;clear hW BX RY hg iS iV;have fh:=keyOf_int_mk underlying27 (Dx hid);go_in;go_wp2_with fail;rw[<-hX,<-hY];refine LH aU (λW eW=>?_);have vf:=lG eW;let⟨k5,kl,kN,kb⟩:=ae HW W (ai bY vf);have FW:=ag (Fr.H (T:=T3) vf);have bx:=FW.2 _ _ _ _ bf Hd;have c1:=cK bx 1;have c2:=cK bx 2;have g2:=cK kb 2;have gf:∀o,W.frozen? (Ad g o)=dF:=λo=>by simp[World.frozen?,kb]
 have PW:=ag (h.H (ai bY vf));obtain⟨V',YW,aP,-⟩:=kN.cells;rw[kb]at aP;cases aP;have HV:=ag YW;have KB:=ag kb;clear hX hY eW kb kN bx YW vf
 repeat still_step
 refine qM ?_;let⟨Z,hZ⟩:=aG (W.setCell (Ad g 2) (.I 1));have vO:Z.heap[g]?=dO #[V0,.U nd.D,.I 1,.map hh,.U nd.P,.U nd.F,.map uu] 186:=by rw[hZ];simp[World.setCell,AK,ae KB]
 have bZ:Below g W Z:=by rw[hZ];exact aD.setCell (p:=(Ad g 2)) aA _
 have kZ:∀z,z<U W.heap->z≠g->Z.heap[z]?=W.heap[z]?:=λz _ aN=>by rw[hZ];exact fT _ _ _ _ (show z≠_ from aN)
 have iO:=One.JM PW.be bZ KB g0 aj kZ;have PZ:=ag (PW.WY hk IX.1 IX.2.1 IX.2.2 iO V0 nd.V nd.D 1 nd.P nd.F vO (HV.T iO.T));have FZ:=ag (FW.Z iO.T);clear bZ kZ iO vO;go_wp2_with fail;rw[<-hZ];clear hZ c1 c2 g2 gf k5 kl KB HV PW FW;refine yI 8 aU (λW1 ZA=>?_);have Rr:=lG ZA;have Sd:=ag (PZ.H Rr);have FW1:=ag (FZ.Z (Fr.H (T:=T3) Rr));have bx:=FW1.2 _ _ _ _ bf Hd;have c0:=cK bx 0;have iK:=tA hk {nd with M:=1}
 have kN:=Sd.qK k _ g hh uu iK IX.1 IX.2.1 IX.2.2;obtain⟨V1,-,-,-,-,-,n3,-⟩:=kN.cells;let⟨M,n,o,hn,hs,hz⟩:=kN.AV;have o':=Hq o;rw[hz]at o';let⟨Y2,fS,ho,qd⟩:=o'.update mr underlying158 (by have:=ae xU;show J nd.y<_;unfold maxLen;omega) (val:=.agg #[]) fh unitElem_mk;have O2:=One.DA Sd.be qd kN.lo.2.1 (ownsMap_at o');have SZ:=SM.put (w:=W1) hs o'.isMap rO (by have:=ae xU;show J nd.y+1<=_;omega) ho;have Bt:=Sd.AV iK IX.1 IX.2.1 IX.2.2 O2 SZ;simp only[ax5]at Bt;replace Bt:=ag Bt;have FY2:=ag (FW1.Z O2.T);have lx:=ag (tA hk {nd with M:=1,y:=mh nd.y id});have No:=FY2.2 _ _ _ _ bf Hd;have e2:=cK No 2;clear ZA kN O2 SZ ho qd o o' hs hz bx No iK Rr;simp only[yR,sY,xM,rI]
 repeat still_step
 refine qM ?_;let⟨q0,q1,q2,q3,q4,q5,qf⟩:=Bt.nJ;let⟨Z3,YU⟩:=aG (Y2.setCell (Ad b 1) (.U (D.g+1)));have vO:Z3.heap[b]?=dO #[.U D.e,.U (D.g+1),.U D.x,.I D.t,.map bs,.map bn] 181:=by rw[YU];simp[World.setCell,AK,Bt.hd]
 have O3:=One.JM Bt.be (by rw[YU];exact aD.setCell (p:=(Ad b 1)) aA _:Below b Y2 Z3) Bt.hd Bt.lo.1 aj (λz _ aN=>by rw[YU];exact fT _ _ _ _ (show z≠_ from aN));have P3:=ag (Bt.aJ1 O3 D.e (D.g+1) D.x D.t vO);have F3:=ag (FY2.Z O3.T);clear vO O3;go_wp2_with fail;rw[<-YU];clear YU fS c0 n3 e2 q0 q1 q2 q3 q4 q5 qf;let⟨vA,dr⟩:=aG Z3.drew;have bA:=lG dr;have PA:=ag (P3.H bA);have FA:=ag (F3.Z (Fr.H (T:=T3) bA));obtain⟨q0,q1,-⟩:=PA.nJ;have kN:=PA.qK k _ g hh uu lx IX.1 IX.2.1 IX.2.2;obtain⟨V1,xo,kb1,-,-,-,-,n4,n5,-,nf⟩:=kN.cells;have IF:b≠g:=λe=>by have:=PA.hd;rw[e,kb1]at this;simp at this
 have HKB:=bG xo kb1;clear bA kN xo kb1;refine fk (λw'=>I w' (Ad b 0)=dU D.e/\I w' (Ad b 1)=dU (D.g+1)) (by rw[<-dr];exact⟨q0,q1⟩) λhS=>?_;rw[<-dr]at hS⊢;clear dr;refine iR 0 1 2 3 4 5 6 7 hS ?_;refine iC 8 9 10 11 hS ?_;refine ry [12] ?_;refine cn (λKK hK=>?_) ?_;rotate_left;exact fg;rotate_right;go_simp;let⟨Z4,YT⟩:=aG (vA.setCell (Ad g 4) (.U D.e));have k4:∀z,z≠g->Z4.heap[z]?=vA.heap[z]?:=λz aN=>by rw[YT];exact fT _ _ _ _ (show z≠_ from aN)
 have b4:Below g vA Z4:=by rw[YT];exact aD.setCell (p:=(Ad g 4)) aA _
 have FE:Z4.heap[g]?=dO #[V1,.U nd.D,.I 1,.map hh,.U D.e,.U nd.F,.map uu] 186:=by rw[YT];simp[World.setCell,AK,HKB.2]
 rw[<-YT];have p0:=(gj (k4 b IF) 0).Z q0;have p1:=(gj (k4 b IF) 1).Z q1;refine bL hK (by exact⟨p0,p1⟩) λhS=>?_;clear hK KK n4 n5 nf YT q0 q1;refine fO 13 14 hS ?_;have m5:=cK FE 5;have mf:∀o,Z4.frozen? (Ad g o)=dF:=λo=>by simp[World.frozen?,FE]
 have H4:=du FE k4 b4;clear FE k4 b4;refine ry [15] ?_;refine cn (λKK hK=>?_) ?_;rotate_left;exact fg;rotate_right;go_simp;let⟨Z5,YS⟩:=aG (Z4.setCell (Ad g 5) (.U (D.g+1)));have k5:∀z,z≠g->Z5.heap[z]?=Z4.heap[z]?:=λz aN=>by rw[YS];exact fT _ _ _ _ (show z≠_ from aN)
 have b5:Below g Z4 Z5:=by rw[YS];exact aD.setCell (p:=(Ad g 5)) aA _
 have hz5:Z5.heap[g]?=dO #[V1,.U nd.D,.I 1,.map hh,.U D.e,.U (D.g+1),.map uu] 186:=by rw[YS];simp[World.setCell,AK,H4.1]
 rw[<-YS];have s0:=(gj (k5 b IF) 0).Z p0;have s1:=(gj (k5 b IF) 1).Z p1;have O5:=One.JM PA.be (H4.2.2.Z b5) HKB.2 g0 aj (λz _ aN=>(k5 z aN).Z (H4.2.1 z aN));have P5:=PA.WY lx IX.1 IX.2.1 IX.2.2 O5 V1 nd.V nd.D 1 D.e (D.g+1) hz5 (HKB.1.T O5.T);simp only[ax5]at P5;have PY3:=ag P5;have FY3:=ag (FA.Z O5.T);have kK:=ag (tA hk {nd with M:=1,y:=mh nd.y id,P:=D.e,F:=D.g+1});refine bL hK (by exact⟨s0,s1⟩) λhS=>?_;clear hK KK YS k5 b5 hz5 s0 s1 O5 P5 m5 mf p0 p1;refine fy ?_;clear hS;go_wp2_with fail;refine yI 9 aU (λW2 Ni=>?_);have Rt:=lG Ni;have Et:=ag (PY3.H Rt);have Jv:=FY3.Z (Fr.H (T:=T3) Rt);have Sa:=NJ.T Jv;have kN:=Et.qK k _ g hh uu kK IX.1 IX.2.1 IX.2.2;obtain⟨V2,-,-,-,-,-,-,n4,n5,-⟩:=kN.cells;have r0:=Sa.cells;have FZ2:=ag ((Fr.H (T:=T3) bY).Z Jv);have RZ2:=ag Sa;clear Ni kN Jv Sa Rt;simp only[yR,sY,xM,rI]
 repeat still_step
 refine qM ?_;go_wp2;exact Tv Et FZ2 RZ2 vY aU rfl rfl rfl
def je(w:G)(A:List Lf)(k:Int):Prop:=∀(i:Nat)(a:Lf),A[i]?=a->I w (Ad a.b a.o)=Y (.int a.k (OQ a.k (k+i)))
variable {k:Int}
def je.H(h:je w A k)(j:Bw w w'):je w' A k:=λi a m=>al (h i a m) j
def je.app(h:je w (A++A2) k):je w A k/\je w A2 (k+J A):=by
  refine⟨λi a j=>h i a ?_,λi a j=>?_⟩;{rw[mj (bg.1 j).1];exact j};{
 have:=h (J A+i) a (by rw[pI af];simpa using j);rw[this];congr 3
 push_cast
 omega}
def je.cons{a:Lf}(h:je w (a::A2) k):I w (Ad a.b a.o)=Y (.int a.k (OQ a.k k))/\je w A2 (k+1):=by
  have i:=(je.app (A:=[a]) (A2:=A2) (by simpa using h));refine⟨?_,by simpa using i.2⟩;have:=i.1 0 a aj;simpa using this
variable {l:List Lf}
def je.flat(h:je w Ls.flatten k)(i:(Ls.take (j+1)).flatten=(Ls.take j).flatten++l):je w l (k+(Ls.take j).flatten.length):=by
  have e:Ls.flatten=(Ls.take j).flatten++(l++(Ls.drop (j+1)).flatten):=by rw[<-uD,<-i,<-J1,Ic]
  rw[e]at h;exact h.app.2.app.1
def Mk.held(h:Mk w w' A k)(i:(A.map λa=>(a.b,a.o)).Nodup):je w' A k:=h.val i
variable {a:Nat}
def Ew.H{x:Ev}(h:Ew w x b a l)(i:Bw w w'):Ew w' x b a l:=h.mk (Mk.tT i 0) (ft.nil _)
def qi.H(h:qi w v xs l)(i:Bw w w'):qi w' v xs l:=qi.mk h (Mk.tT i 0) (ft.nil _)
def Di.H{x:aB}(h:Di w x b a l)(i:Bw w w'):Di w' x b a l:=h.mk (Mk.tT i 0) (ft.nil _)
def kG.H{xs:List aB}(h:kG w v xs l)(i:Bw w w'):kG w' v xs l:=kG.mk h (Mk.tT i 0) (ft.nil _)
def Eu.H{x:ar}(h:Eu w x b a l)(i:Bw w w'):Eu w' x b a l:=h.mk (Mk.tT i 0) (ft.nil _)
def lK.H{xs:List ar}(h:lK w v xs l)(i:Bw w w'):lK w' v xs l:=lK.mk h (Mk.tT i 0) (ft.nil _)
theorem ME{q:Prop}(h':q:=by
    have hnA:=h.len (λx b a l hl=>by first|exact hl.pos|(rw[show l=_ from hl];simp));let⟨Ls,en,lL,eA,fD⟩:=h.at;have Js:=ag fD;have HA:=ag (show je w Ls.flatten k by rw[<-eA];exact hA);have EA:=ag eA;have K1:k+(J Ls.flatten:Int)<=100000000:=eA▸k1;have hn:n<=100000000:=af;have LL:=ag lL;clear h fD hA eA en lL hnA;show dQ _ _ _ _ _;go_in;go_wp2
    go_loopw[1,5](λkk i wr=>∃j:Nat,j<=n/\i=.I j/\kk=.I (k+(((Ls.take j).flatten.length:Nat):Int))/\Bw w wr) (λ_ i _=>n-(intOf i).toNat)
    exact⟨0,cO _,rfl,aj,aR _ _⟩;{
 obtain⟨j,hj,rfl,rfl,az⟩:=hrel;have hle:=ax7 Ls j;by_cases aH:j<n;{
 have cL:=bM j n;obtain⟨b,o,x,l,rfl,hx,hl,hP,uP,rz⟩:=ae Js j aH;have hh:=(HA.flat uP).H az;have YY:(Ls.take (j+1)).flatten.length=(Ls.take j).flatten.length+J l:=by rw[uP,dm]
 have uM:k+((Ls.take j).flatten.length:Int)+(J l:Int)<=100000000:=by have:=ax7 Ls (j+1);omega
 have HT:=ag YY;generalize hT:(Ls.take j).flatten.length=T at*;clear hT hx hl uP rz YY;have hT0:0<=k+(T:Int):=af
 first
   | (have e1:l=[⟨b,o+j*1,.u8⟩]:=hP
      rw[J4]at e1;subst e1;have ki:I wr (Ad b (o+j))=Y (.int .u8 ((k+(T:Int)) % 256)):=hh.cons.1;have aN:(((k+(T:Int)) % 256) != ((k+(T:Int)) % 256))=dF:=aj;have dU4:k+(T:Int)+1<=100000000:=by simpa using uM
      clear hP hh uM;have b1:=az;clear az)
   | (have e1:l=[⟨b,o+j*1,.u64⟩]:=hP
      rw[J4]at e1;subst e1;have ki:I wr (Ad b (o+j))=dU (k+(T:Int)):=hh.cons.1;have aN:((k+(T:Int)) != (k+(T:Int)))=dF:=aj;have dU4:k+(T:Int)+1<=100000000:=by simpa using uM
      clear hP hh uM;have b1:=az;clear az)
   | (have Cx:Ew wr x b _ l:=hP.H az
      obtain⟨q,d,lb,rfl,hd,xX⟩:=Cx;have HD:=ag hd;have xy:=ag xX;clear hd xX;have hlen:k+(T:Int)+(1+(J lb:Int))<=100000000:=by simp only[dm,kJ]at uM;omega
      clear uM hP;have ki:I wr (Ad b (o+j*2))=dI (k+(T:Int)):=(je.cons hh).1;have t0:=(je.cons hh).2;have s1:je wr lb (k+(T:Int)+1):=t0;have HS:=ag (s1);have kW:=ag (ki);have W0:=ag (aR (U wr.heap) wr);clear hh t0 s1 ki;have ki:=al kW W0;have zE:((k+(T:Int)) != (k+(T:Int)))=dF:=aj;have hd1:=al HD W0;go_wp2_with fail;clear ki zE hd1;refine br (at5 xy (HS.H W0) af af) λv0 N0=>?_;have SI:=ag (ai W0 N0);have cj3:¬k+(T:Int)+1+(J lb:Int)<0:=af;clear N0;have b1:=ai az SI;clear az)
   | (have Cx:Di wr x b _ l:=hP.H az
      obtain⟨q,d,lb,rfl,hd,xX⟩:=Cx;have HD:=ag hd;have xy:=ag xX;clear hd xX;have hlen:k+(T:Int)+(2+(J lb:Int))<=100000000:=by simp only[dm,kJ]at uM;omega
      clear uM hP;have ki:I wr (Ad b (o+j*3))=dU (k+(T:Int)):=(je.cons hh).1;have t0:=(je.cons hh).2;have fM:I wr (Ad b (o+j*3+1))=dI (k+(T:Int)+1):=(je.cons t0).1;have t1:=(je.cons t0).2;have s2:je wr lb (k+(T:Int)+1+1):=t1;have HS:=ag (s2);have kW:=bG ki (fM);have W0:=ag (aR (U wr.heap) wr);clear hh t0 t1 s2 ki fM;have ki:=al kW.1 W0;have zE:((k+(T:Int)) != (k+(T:Int)))=dF:=aj;have fM:=al kW.2 W0;have ck0:((k+(T:Int)+1) != (k+(T:Int)+1))=dF:=aj;have hd2:=al HD W0;go_wp2_with fail;clear ki zE fM ck0 hd2;have lv0:=xy.H W0;refine br (cn4 lv0 (HS.H W0) af af) λv0 N0=>?_;have SI:=ag (ai W0 N0);have cj3:¬k+(T:Int)+1+1+(J lb:Int)<0:=af;clear N0;have b1:=ai az SI;clear az)
   | (have Cx:Eu wr x b _ l:=hP.H az
      obtain⟨p0,c0,p1,c1,p4,c4,p7,c7,l0,l1,l4,l7,rfl,⟨h1,h2⟩,⟨h3,h4⟩,⟨h5,h6⟩,⟨h7,h8⟩⟩:=Cx;have HD:=gI h1 h3 h5 h7;have xy:=gI h2 h4 h6 h8;clear h1 h2 h3 h4 h5 h6 h7 h8;have hlen:k+(T:Int)+(4+(J l0:Int)+(J l1:Int)+(J l4:Int)+(J l7:Int))<=100000000:=by simp only[dm,kJ]at uM;omega
      clear uM hP;have s0:je wr l0 (k+(T:Int)):=(je.app hh).1;have t0:=(je.app hh).2;have s1:je wr l1 (k+(T:Int)+(J l0:Int)):=(je.app t0).1;have t1:=(je.app t0).2;have gC:I wr (Ad b (o+j*8+2))=dU (k+(T:Int)+(J l0:Int)+(J l1:Int)):=(je.cons t1).1;have t2:=(je.cons t1).2;have nK:I wr (Ad b (o+j*8+3))=dI (k+(T:Int)+(J l0:Int)+(J l1:Int)+1):=(je.cons t2).1;have t3:=(je.cons t2).2;have s4:je wr l4 (k+(T:Int)+(J l0:Int)+(J l1:Int)+1+1):=(je.app t3).1;have t4:=(je.app t3).2;have oI:I wr (Ad b (o+j*8+5))=dU (k+(T:Int)+(J l0:Int)+(J l1:Int)+1+1+(J l4:Int)):=(je.cons t4).1;have t5:=(je.cons t4).2;have jH:I wr (Ad b (o+j*8+6))=dU (k+(T:Int)+(J l0:Int)+(J l1:Int)+1+1+(J l4:Int)+1):=(je.cons t5).1;have t6:=(je.cons t5).2;have s7:je wr l7 (k+(T:Int)+(J l0:Int)+(J l1:Int)+1+1+(J l4:Int)+1+1):=t6;have HS:=gI s0 s1 s4 (s7);have kW:=gI gC nK oI (jH);have W0:=ag (aR (U wr.heap) wr);clear hh t2 t3 t5 t6 t0 t1 t4 s0 s1 s4 s7 gC nK oI jH;have hd0:=al HD.1 W0;go_wp2_with fail;clear hd0;refine br (at5 xy.1 (HS.1.H W0) af af) λv0 N0=>?_;have SI:=ag (ai W0 N0);have cj3:¬k+(T:Int)+(J l0:Int)<0:=af;clear N0;have hd1:=al HD.2.1 SI;go_wp2_with fail;clear hd1;refine br (at5 xy.2.1 (HS.2.1.H SI) af af) λv1 N1=>?_;have EG:=ag (ai SI N1);have fq2:¬k+(T:Int)+(J l0:Int)+(J l1:Int)<0:=af;clear N1;have gC:=al kW.1 EG;have dS4:((k+(T:Int)+(J l0:Int)+(J l1:Int)) != (k+(T:Int)+(J l0:Int)+(J l1:Int)))=dF:=aj;have nK:=al kW.2.1 EG;have dS3:((k+(T:Int)+(J l0:Int)+(J l1:Int)+1) != (k+(T:Int)+(J l0:Int)+(J l1:Int)+1))=dF:=aj;have hd4:=al HD.2.2.1 EG;go_wp2_with fail;clear gC dS4 nK dS3 hd4;refine br (cn3 p4 c4 (J x.y) (x.y) l4 (k+(T:Int)+(J l0:Int)+(J l1:Int)+1+1) _ xy.2.2.1 (HS.2.2.1.H EG) af af) λv2 N2=>?_;have xG:=ag (ai EG N2);have fq1:¬k+(T:Int)+(J l0:Int)+(J l1:Int)+1+1+(J l4:Int)<0:=af;clear N2;have oI:=al kW.2.2.1 xG;have dS2:((k+(T:Int)+(J l0:Int)+(J l1:Int)+1+1+(J l4:Int)) != (k+(T:Int)+(J l0:Int)+(J l1:Int)+1+1+(J l4:Int)))=dF:=aj;have jH:=al kW.2.2.2 xG;have dS1:((k+(T:Int)+(J l0:Int)+(J l1:Int)+1+1+(J l4:Int)+1) != (k+(T:Int)+(J l0:Int)+(J l1:Int)+1+1+(J l4:Int)+1))=dF:=aj;have hd7:=al HD.2.2.2 xG;go_wp2_with fail;clear oI dS2 jH dS1 hd7;refine br (cn3 p7 c7 (J x.X) (x.X) l7 (k+(T:Int)+(J l0:Int)+(J l1:Int)+1+1+(J l4:Int)+1+1) _ xy.2.2.2 (HS.2.2.2.H xG) af af) λv3 N3=>?_;have He:=ag (ai xG N3);have fq0:¬k+(T:Int)+(J l0:Int)+(J l1:Int)+1+1+(J l4:Int)+1+1+(J l7:Int)<0:=af;clear N3;have b1:=ai az He;clear az)
 go_wp2;go_roundw;exact⟨j+1,af,by go_num,by rw[ae HT];first|go_num|(simp;omega)|(congr 1;simp;omega),by first|exact b1|exact below_drewN b1⟩;exact cW};{
 obtain rfl:j=n:=af;have e2:(Ls.take j).flatten=A:=by rw[<-ae LL,wV];exact EA.C
 rw[e2];clear hle Js HA;go_wp2;go_ret;exact⟨rfl,az⟩}}):q:=h'
def at5{xs:LI}(h:xw (.S p n c) xs A)(hA:je w A k)(m:0<=k)(k1:k+J A<=100000000):Cp 38 #[.S p n c,.I k] w (Rb (.I (k+J A)) w):=ME
def cn3(p:OA)(c n:Nat)(xs:LI)(A:List Lf)(k:Int)(w:G)(h:Dg (.S p n c) xs A)(hA:je w A k)(m:0<=k)(k1:k+J A<=100000000):Cp 145 #[.S p n c,.I k] w (Rb (.I (k+J A)) w):=ME
def cn4(h:qi w (.S p n c) xs A)(hA:je w A k)(m:0<=k)(k1:k+J A<=100000000):Cp 40 #[.S p n c,.I k] w (Rb (.I (k+J A)) w):=ME
def dX5(p:OA)(c n:Nat)(xs:List aB)(A:List Lf)(k:Int)(w:G)(h:kG w (.S p n c) xs A)(hA:je w A k)(m:0<=k)(k1:k+J A<=100000000):Cp 79 #[.S p n c,.I k] w (Rb (.I (k+J A)) w):=ME
def dX9(p:OA)(c n:Nat)(xs:List ar)(A:List Lf)(k:Int)(w:G)(h:lK w (.S p n c) xs A)(hA:je w A k)(m:0<=k)(k1:k+J A<=100000000):Cp 80 #[.S p n c,.I k] w (Rb (.I (k+J A)) w):=ME
variable {s:aB}
def PS.eL9{SB NB HB UB:iN}(h:PS w0 w b bs bn D SB NB HB UB)(hE:PE w0 w gN s)(zy:gN∉SB)(hid:∀s'∈D.E,s'.1≠s.1)(iO:One w0 w w' bs)(hl:J D.E<1048576)(hM:∀M,w.ownsMap dG 27 iF bs (J D.E) M->w'.ownsMap dG 27 iF bs (J D.E+1) (M.put (.U s.1) (.lit (.I gN)))):PS w0 w' b bs bn {D with E:=D.E++[s]} (SB++[gN]) NB HB UB:=by
 let⟨d0,d1,d2,d3,d4,d5⟩:=h.hu;let⟨M,n,o,hn,m,hz⟩:=h.tJ;let⟨es0,c0,m0⟩:=ownsMap_at o;have nc:∀{y:Nat}{cs:iA}{ty:TypeId},w.heap[y]?=dO cs ty->y≠bs:=λ{y cs ty}hy e=>by rw[e,m0]at hy;cases hy
 have ij:∀p∈List.zipWith (λ(s:aB)g=>(Lit.U s.1,g)) D.E SB,p.1≠.U s.1:=λp hp e=>by obtain⟨i,s',y,h1,-,rfl⟩:=yD hp;exact hid s' (bu h1) (by simpa using e)
 have o':=Hq o;rw[hz]at o';refine⟨h.be.Z iO.b,iO.obj h.hd (nc h.hd),by simp[h.ur],⟨_,_,hM M o',af,?_,?_⟩,λj s1 g1 fo dw=>?_,?_,h.vG,h.hlen,h.vZ,?_,λj gQ gb h1 u1 fo dw nG jP=>?_,h.Fm,h.lo,h.ve⟩;{rw[aV4 h.ur.C];exact m.put o.isMap (k:=.U s.1) iq ij gN};{
 have hh:Maps.has M (.U s.1)=dF:=by rw[DH];intro e;let⟨p,hp,e2⟩:=(m.hs _).1 e;exact ij p hp e2
 rw[size_put (ak5 o mr),hh];simp[hz]};{
 have aH:j<J D.E\/j=J D.E:=by have:=(bg.1 fo).1;simp at this;omega
 obtain aH|rfl:=aH;{simp only[mj aH]at fo;rw[mj (h.ur▸aH)]at dw;have q:=h.vz j s1 g1 fo dw;obtain⟨-,u,h1,-⟩:=id q;exact q.W iO (nc h1)};{simp at fo;rw[<-h.ur]at dw;simp at dw;subst fo;subst dw;obtain⟨-,u,h1,-⟩:=id hE;exact hE.W iO (nc h1)}};{rw[Cd];refine⟨h.snd,aj,λa ha c hc=>?_⟩;simp at hc;subst hc;exactλe=>zy (e▸ha)};{let⟨M,n,o,r⟩:=h.pX;exact⟨M,n,iO.map o (λe=>d0 e.C),r⟩};{have q:=h.qK j gQ gb h1 u1 fo dw nG jP;obtain⟨-,⟨V,q1,-⟩,p3,p4⟩:=id q;exact q.W iO (nc q1) (d1 _ (bu nG)).1 (d2 _ (bu jP)).1}
def dx5{SB NB HB UB:iN}(h:O (PS w0 w b bs bn D SB NB HB UB))(hx:0<=D.x/\D.x<2^62)(ht:0<=D.t/\D.t<=1000000)(zy:O (∀s'∈D.E,s'.1≠D.x+1))(hl:O (J D.E<1048576)):dQ dG 336 #[.agg #[],Pz b] w λr w'=>∃gN,uq w0 w b bs bn {D with x:=D.x+1,E:=D.E++[(D.x+1,D.t+10,[])]} (SB++[gN]) NB HB UB {js with i:=D.x+1,n:=D.t+10} r w':=by
 let⟨X,iY,hX,hY,bY,zX,zY,BX,RY⟩:=ZW w #[] 305;have NJ:=ag RY;have vY:=h.be.size;obtain⟨-,-,h2,-,-,-,hf⟩:=h.nJ;have bl:b<U w.heap:=gy h.hd;have k2:=λ(o1 o2:Obj)=>al h2 (((aR (U w.heap) w).alloc aA o1).alloc aj o2);have kf:=λ(o1 o2:Obj)(o:Nat)=>((((aR (U w.heap) w).alloc aA o1).alloc aj o2).frozen (p:=(Ad b o)) bl).Z (hf o);clear RY BX h2 hf bl;go_in;go_wp2_with fail;rw[<-hX,<-hY];have PY:=ag (h.H bY);let⟨Z,hZ⟩:=aG (iY.setCell (Ad b 2) (.U (D.x+1)));rw[<-hZ];have vO:Z.heap[b]?=dO #[.U D.e,.U D.g,.U (D.x+1),.I D.t,.map bs,.map bn] 181:=by rw[hZ];simp[World.setCell,AK,PY.hd]
 have iO:=One.JM PY.be (by rw[hZ];exact aD.setCell (p:=(Ad b 2)) aA _:Below b iY Z) PY.hd PY.lo.1 aj (λz _ aN=>by rw[hZ];exact fT _ _ _ _ (show z≠_ from aN));have PZ:=ag (PY.aJ1 iO D.e D.g (D.x+1) D.t vO);have FZ:=ag iO.T;refine yI 10 aU (λW eW=>?_);have bW:=lG eW;have PW:=ag (PZ.H bW);have FW:=ag (FZ.Z (Fr.H (T:=T3) bW));obtain⟨-,-,q2,q3,-⟩:=PW.nJ;clear eW bW PZ FZ;simp only[yR,sY,xM,rI]
 repeat still_step
 refine qM ?_;obtain⟨V,hV,bV,zV,-,gV⟩:=bQ W #[.U (D.x+1),.I (D.t+10),aq] 97;go_wp2_with fail;rw[<-hV];clear hV q2 q3;have PV:=ag (PW.H bV);have FV:=ag (FW.Z (Fr.H (T:=T3) bV));let⟨gN,eN⟩:=aG (U W.heap);rw[<-eN]at gV⊢;have hnS:gN∉SB:=λe=>by let⟨i,hi⟩:=jk.1 e;obtain⟨s',qO⟩:∃s',D.E[i]?=Y s':=⟨_,bD (by have:=PW.ur;simp only at this;rw[<-this];exact(bg.1 hi).1)⟩;obtain⟨-,u,hu,-⟩:=PW.vz i s' gN qO hi;have:=gy hu;omega
 have glo:U w0.heap<=gN:=aK PW.be.size;have HN:=bG hnS glo;have GV:=ag gV;clear hnS eN PW FW gV;refine yI 9 aU (λW2 Ni=>?_);have Ru:=lG Ni;have Et:=ag (PV.H Ru);have Jv:=ag (FV.Z (Fr.H (T:=T3) Ru));obtain⟨-,-,-,-,q4,-⟩:=Et.nJ;have Zp:=(Ru.block gN (gy GV)).Z GV;have g0:=cK Zp 0;have fh:=keyOf_int_mk underlying27 (Dx (i:=D.x+1) af);let⟨M,n,o,hn,m,hz⟩:=Et.tJ;have o':=Hq o;rw[hz]at o';let⟨iU,fS,ho,qd⟩:=o'.update mr underlying178 (by have:=ae hl;show J D.E<_;unfold maxLen;omega) fh (TD gN);have O2:=One.DA Et.be qd Et.lo.2.1 (ownsMap_at o');have PU:=ag (Et.eL9 (s:=(D.x+1,D.t+10,[])) (gN:=gN) ⟨HN.2,_,Zp,AQ.nil _ _⟩ HN.1 zy O2 hl (λM' o1=>by obtain⟨U',Ms,xT,-⟩:=o1.update mr underlying178 (by have:=ae hl;show J D.E<_;unfold maxLen;omega) fh (TD gN);rw[fS]at Ms;cases Ms;exact xT))
 have FU:=ag (Jv.Z O2.T);have aN:gN≠bs:=λe=>by let⟨es,c,hm⟩:=ownsMap_at o;rw[<-e,Zp]at hm;cases hm
 have GU:=ag (O2.obj Zp aN);clear Ni Ru Zp o o' m hz ho qd O2 PV FV aN;simp only[yR,sY,xM,rI]
 repeat still_step
 refine qM ?_;go_wp2_with fail;clear fS g0 q4 Et Jv;refine yI 9 aU (λW3 eW3=>?_);have bU:=lG eW3;have P3:=ag (PU.H bU);have F3:=FU.Z (Fr.H (T:=T3) bU);have gW3:=(bU.block gN (gy GU)).Z GU;have g0:=cK gW3 0;have g1:=cK gW3 1;have R3:=NJ.T F3;have r0:=R3.cells;have F3':=ag ((Fr.H (T:=T3) bY).Z F3);have R3':=ag R3;clear eW3 bU gW3 R3 F3;simp only[yR,sY,xM,rI]
 repeat still_step
 refine qM ?_;go_wp2;exact WJ R3' aU rfl rfl ⟨gN,PS.rep P3 R3' af _ _ _ _ _ _ _ _,F3'.low ((tQ).h af),rfl⟩
structure CI(ss:List aB)(ns:List ar):Prop where
 so:rF ss
 nt:∀nd∈ns,NT ss nd/\nd.y.Pairwise (·<·)/\J nd.y<=1048576
 kd:KD ns
def NT.ids(h:NT ss nd)(o:ss'.map (·.1)=ss.map (·.1)):NT ss' nd:=
 ⟨h.Vq,h.pl,h.Oo,h.Oq,λi q=>by let⟨j,s,m,e⟩:=bZ8 o (h.Te i q);exact⟨s,bu m,e⟩⟩
theorem rF.tell(ev:Ev):∀(ids:LI){ss:List aB},rF ss->rF (we ss ids ev)
 |[],ss,h=>h
 |a::r,ss,h=>rF.tell ev r (h.cu8 a ev)
def KD.erase(h:KD ns)(k:Nat):KD (ns.eraseIdx k):=λi j a c m hc e=>by
 rw[aU8]at m hc;by_cases q:i<k<;>by_cases o:j<k
 {rw[aM q]at m;rw[aM o]at hc;exact h i j a c m hc e};{rw[aM q]at m;rw[aL o]at hc;have:=h i (j+1) a c m hc e;omega};{rw[aL q]at m;rw[aM o]at hc;have:=h (i+1) j a c m hc e;omega};{rw[aL q]at m;rw[aL o]at hc;have:=h (i+1) (j+1) a c m hc e;omega}
theorem KD.paths(h:KD ns)(r:ns'.map (·.A)=ns.map (·.A)):KD ns':=λi j a c q hc e=>by
 have key:∀(i:Nat)(a:ar),ns'[i]?=Y a->∃o,ns[i]?=Y o/\o.A=a.A:=λi a q=>by
  have m:(ns'.map (·.A))[i]?=a.A:=by rw[qn,q];rfl
  rw[r,qn]at m;cases hn:ns[i]? with
  |none=>rw[hn]at m;cases m
  |some o=>rw[hn]at m;exact⟨o,rfl,by simpa using m⟩
 let⟨o,m,x⟩:=key i a q;let⟨y,s,u⟩:=key j c hc;exact h i j o y m s (by rw[x,u,e])
variable {k:Nat}
def Wx(j:ns[k]?=nd)(i:nd'.A=nd.A):(ns.set k nd').map (·.A)=ns.map (·.A):=by
 rw[an7,i];exact Tp (by rw[qn,j];rfl)
def CI.cw(h:CI ss ns)(id:Int):CI ss (ns.map (sO id)):=by
 refine⟨h.so,λu s=>?_,h.kd.paths (by rw[uB];rfl)⟩;obtain⟨y,m,rfl⟩:=fe.1 s;let⟨j,r,q⟩:=h.nt y m;exact⟨⟨j.Vq,j.pl,Td j.Oo,gv (We) j.Oq,λi o=>j.Te i (Hg.1 o).1⟩,r,q⟩
def CI.set(h:CI ss ns)(y:ns[k]?=nd)(B:rF ss')(m:ss'.map (·.1)=ss.map (·.1))(s:nd'.A=nd.A)(r:nd'.X=nd.X\/nd'.X=[])(D:nd'.y.Pairwise (·<·)/\J nd'.y<=1048576):CI ss' (ns.set k nd'):=by
 refine⟨B,λx q=>?_,h.kd.paths (Wx y s)⟩;obtain q|rfl:=Xn q;{let⟨j,E⟩:=h.nt x q;exact⟨j.ids m,E⟩};{
 obtain⟨j,-⟩:=h.nt nd (bu y);refine⟨NT.ids ⟨by rw[s];exact j.Vq,by rw[s];exact j.pl,?_,?_,?_⟩ m,D⟩;{
 obtain e|e:=r<;>rw[e]
 {exact j.Oo};{exact List.Pairwise.nil}};{
 obtain e|e:=r<;>rw[e]
 {exact j.Oq};{simp}};{
 obtain e|e:=r<;>rw[e]
 {exact j.Te};{intro i m;cases m}}}
def CI.tell(h:CI D.E D.N)(hk:D.N[k]?=nd)(kd:Int):CI (jV D k kd).E (jV D k kd).N/\(jV D k kd).N.map (·.A)=D.N.map (·.A)/\(jV D k kd).E.map (·.1)=D.E.map (·.1)/\(jV D k kd).N[k]?=Y {nd with X:=[]}:=by
 unfold jV;rw[hk];refine⟨h.set hk (rF.tell _ _ h.so) (Wk _ _ _) rfl (.R rfl) (h.nt nd (bu hk)).2,Wx hk rfl,Wk _ _ _,tA hk _⟩
def CI.drop(h:CI D.E D.N)(hk:D.N[k]?=nd)(id:Int):CI (jR D k id).E (jR D k id).N/\(jR D k id).N.map (·.A)=D.N.map (·.A)/\(jR D k id).E.map (·.1)=D.E.map (·.1)/\∃i,(jR D k id).N[k]?=Y i/\i.D=nd.D/\i.A=nd.A:=by
 unfold jR;rw[hk];let⟨B,y,x⟩:=h.nt nd (bu hk);by_cases hc:nd.y.contains id=dY;{
 simp only[hc,od];by_cases he:jF nd.y id=[];{
 simp only[he,od];have s:=tA hk {nd with y:=[],M:=0,P:=0,F:=0}
 let⟨r,q,m,j⟩:=CI.tell (D:={D with N:=D.N.set k {nd with y:=[],M:=0,P:=0,F:=0}}) (h.set hk h.so rfl rfl (.L rfl) ⟨List.Pairwise.nil,aj⟩) s 3;exact⟨r,q.Z (Wx hk rfl),m,_,j,rfl,rfl⟩};{
 simp only[he,yT];refine⟨h.set hk h.so rfl rfl (.L rfl) ⟨Td y,gv (We) x⟩,Wx hk rfl,?_,_,tA hk _,rfl,rfl⟩
 first|trivial|rfl}}
 {simp only[hc];exact⟨h,rfl,rfl,nd,hk,rfl,rfl⟩}
def CI.rm(h:CI D.E D.N)(k:Nat):CI (xH D k).E (xH D k).N:=⟨h.so,λi j=>h.nt i (Pg j),h.kd.erase k⟩
def cC2{α:Type}{l:List α}(i:k<J l):(l.eraseIdx k).drop k=l.drop (k+1):=by
 rw[List.eraseIdx_eq_take_drop_succ,List.drop_append,List.drop_take];simp[show min k (J l)=k by omega]
theorem dA5(h:rF ss)(m:ss[i]?=s):Cb s.1 ss=ss.eraseIdx i:=by
 have X:∀(j:Nat)(z:aB),ss[j]?=Y z->z.1=s.1->j=i:=λj z x e=>by have S:=Fq.1 h.pw;let⟨R,M⟩:=bg.1 m;let⟨N,E⟩:=bg.1 x;obtain B|B|B:=Mh i j;{have:=S i j R N B;rw[M,E]at this;omega};{exact B.C};{have:=S j i N R B;rw[M,E]at this;omega}
 have key:∀(l:List aB)(i:Nat),l[i]?=s->(∀(j:Nat)(z:aB),l[j]?=Y z->z.1=s.1->j=i)->Cb s.1 l=l.eraseIdx i:=by
  intro l
  induction l with
  |nil=>intro i m;simp at m
  | cons y r ih=>
   intro i m D;cases i with
   |zero=>
    simp at m;subst m;rw[List.eraseIdx_cons_zero,Cb,List.filter_cons,aL aj,List.filter_eq_self.2];intro z V;let⟨j,x⟩:=jk.1 V;have:=D (j+1) z (by simpa using x);by_cases e:z.1=y.1;{have:=this e;omega};{simp[e]}
   |succ i=>
    have W:¬y.1=s.1:=λe=>aK (D 0 y aj e);rw[List.eraseIdx_cons_succ,Cb,List.filter_cons,aM (by simp[W]),<-Cb,ih i (by simpa using m) (λj z x e=>aK (D (j+1) z (by simpa using x) e))]
 exact key ss i m X
def BM(f:ar->ar)(left:Lit->Bool)(ns:List ar):List ar:=ns.map λs=>if left (di s.A)then s else f s
def bK3(h:∀s∈ns,left (di s.A)):BM f left ns=ns:=by
 unfold BM;rw[Px (g:=id) (λs i=>by rw[aM (h s i)];rfl),aW9]
def bK4(h:∀k,left k=dF):BM f left ns=ns.map f:=by
 unfold BM;exact Px λs _=>by rw[aL (by rw[h];simp)]
variable {s:ar}
def bK5{ss:List ar}(j:ss[i]?=s)(m:left (di s.A)):(BM f left ss)[i]?=s:=by
 unfold BM;rw[qn,j,Hx,aM m]
theorem bK2(r:KD ns)(m:ns[i]?=s):(BM f left ns).set i (f s)=BM f (λz=>left z&&!z.sameKey (di s.A)) ns:=by
 refine Uk λj=>?_;unfold BM;rw[uE,qn,qn,ir];by_cases q:i=j;{subst q;have o:(di s.A).sameKey (di s.A):=am7 (by unfold di;trivial);rw[aM rfl,aM (bg.1 m).1,m];simp[o]};{
 rw[aL q];cases hj:ns[j]? with
 |none=>rfl
 |some z=>
  have u:di z.A≠di s.A:=λe=>q (r i j s z m hj e.C);simp[sameKey_ne u]}
def PS.iter{SB NB HB UB:iN}(h:PS w0 w b bs bn D SB NB HB UB)(i:One w0 w w' z)(n1:∀cs ty,w.heap[z]?≠Y (dO cs ty))(n2:∀es c,w.heap[z]?≠Y (.map es c)):PS w0 w' b bs bn D SB NB HB UB:=by
 have s:∀{y:Nat}{cs:iA}{ty:TypeId},w.heap[y]?=dO cs ty->y≠z:=λx e=>n1 _ _ (e▸x);have m:∀{y:Nat}{es:Array MapEntry}{c:Nat},w.heap[y]?=Y (.map es c)->y≠z:=λx e=>n2 _ _ (e▸x);refine⟨h.be.Z i.b,i.obj h.hd (s h.hd),h.ur,?_,λj S g1 E N=>?_,h.snd,h.vG,h.hlen,h.vZ,?_,λj nd gb hh R E N B h2=>?_,h.Fm,h.lo,h.ve⟩;{let⟨M,n,o,r⟩:=h.tJ;let⟨es,c,hm⟩:=ownsMap_at o;exact⟨M,n,i.map o (m hm),r⟩};{have q:=h.vz j S g1 E N;obtain⟨-,u,B,-⟩:=id q;exact q.W i (s B)};{let⟨M,n,o,r⟩:=h.pX;let⟨es,c,hm⟩:=ownsMap_at o;exact⟨M,n,i.map o (m hm),r⟩};{have q:=h.qK j nd gb hh R E N B h2;obtain⟨-,⟨V,Z,-⟩,X,W⟩:=id q;let⟨es,c,m3⟩:=X.at;let⟨IS,c',m4⟩:=W.at;exact q.W i (s Z) (m m3) (m m4)}
variable {s:Int}
theorem dN2(iK:1<=k)(lx:k<=13){x y:Bool}{D M vs:Int}{u E:Bool}{f:Int}(N:Jh w 0 (k*7) x y D M vs u E){B:Bool}(eB:O (Bf x y D M vs u s f n m e g=B))(V:(B&&E)=dF):dQ dG 197 #[lM k s (.S p n c) f (.S q m d) e g] w (Rb aq w):=by
 have h1:=gm 1 k;have h2:(k:Int)<=13:=af;have h3:(k:Int)<14:=af;have h4:k<14:=af;have h5:=gm 0 k;go_in;go_wp2_with fail;let⟨W,i⟩:=aG (w.alloc (dO #[.I k,.U s,.S p n c,.I f,.S q m d,.U e,.U g] 65));have o:=gF i;have R:lp W (U w.heap) (.I k) (.U s) (.S p n c) (.I f) (.S q m d) (.U e) (.U g):=by rw[i];simp[lp,go_sem]
 have r:=N.H o;rw[<-i];clear i N;refine br (aI0 iK lx r eB) λw1 j=>?_;have Z:=R.H j;have MO:=r.H j;have X:=ai o j;clear R r o j;have a0:=Z;have t0:=MO;cases B with
 |false=>
  go_wp2;go_ret;exact⟨rfl,X⟩
 |true=>
  rw[vI]at V;subst V;go_wp2;go_ret;exact⟨rfl,X⟩
def dN1{k f:Int}(r:k<1\/13<k):dQ dG 197 #[lM k s (.S p n c) f (.S q m d) e g] w (Rb aq w):=by
 go_in;go_wp2_with fail;let⟨W,i⟩:=aG (w.alloc (dO #[.I k,.U s,.S p n c,.I f,.S q m d,.U e,.U g] 65));have j:=gF i;rw[<-i];clear i;refine br (cX9 r) λx o=>?_;have u:=ai j o;clear j o;go_wp2;go_ret;exact⟨rfl,u⟩
abbrev bD5(F:Nat)(w:G)(k s f e g:Int)(n m N:Nat)(P V R:LI):Prop:=
 ∀(q1 q2:OA)(d1 d2:Nat)(w':G),Bw w w'->Rd w' (.S q1 n d1) P->Rd w' (.S q2 m d2) V->dQ dG F #[lM k s (.S q1 n d1) f (.S q2 m d2) e g] w' λr w''=>∃p' c',r=dR (.S p' N c')/\Own (U w'.heap) w'' (.S p' N c') R/\Bw w' w''
def cz3{F:Nat}{k f:Int}(h:∀(o j:OA)(u q:Nat)(w':G),Bw w w'->dQ dG F #[lM k s (.S o n u) f (.S j m q) e g] w' λr i=>r=dR aq/\Bw w' i):bD5 F w k s f e g n m 0 P V []:=
 λo j u q w' x _ _=>(h o j u q w' x).h (by rintro r i⟨rfl,y⟩;exact⟨dN,0,rfl,lZ _ _ _ _,y⟩)
structure fG where
 e:Int
 g:Int
 x:Int
 t:Int
 E:List aB
 N:List ar
def rG:fG:=⟨0,0,0,0,[],[]⟩
def mY(B:Nat)(w:G)(p:OA)(n c:Nat)(q:OA)(m d:Nat)(ss:List aB)(ns:List ar):Prop:=
 ∃j i,kV w (.S p n c) ss/\gJ w (.S q m d) ns/\kG w (.S p n c) ss j/\lK w (.S q m d) ns i/\gh B w (j++i)
def mY.zero(B:Nat)(w:G):mY B w dN 0 0 dN 0 0 [] []:=
 ⟨[],[],⟨dN,0,rfl,.L rfl⟩,⟨dN,0,rfl,.L rfl⟩,⟨dN,0,[],rfl,rfl,rfl,.L rfl⟩,⟨dN,0,[],rfl,rfl,rfl,.L rfl⟩,gh.nil _ _⟩
def mY.W(h:mY B w p n c q m d ss ns)(D:∀b,B<=b->b<U w.heap->w'.heap[b]?=w.heap[b]?):mY B w' p n c q m d ss ns:=by
 obtain⟨r,o,M,E,y,x,j⟩:=h;have k:∀a∈r++o,w'.heap[a.b]?=w.heap[a.b]?:=λa i=>D _ (j.lo a i) (j.jY.lt i);have u:∀a∈r,w'.heap[a.b]?=w.heap[a.b]?:=λa i=>k a (Me _ i);have s:∀a∈o,w'.heap[a.b]?=w.heap[a.b]?:=λa i=>k a (Fu _ i);exact⟨r,o,M.kR y u,E.kR x s,kG.W y u,lK.W x s,j.W k⟩
def mY.H(h:mY B w p n c q m d ss ns)(j:Bw w w'):mY B w' p n c q m d ss ns:=h.W λb _ i=>j.block b i
def mY.h{B':Nat}(h:mY B w p n c q m d ss ns)(i:B'<=B):mY B' w p n c q m d ss ns:=by
 obtain⟨y,x,u,s,r,o,j⟩:=h;exact⟨y,x,u,s,r,o,j.h i⟩
def bw3(B:Nat)(r:Ending)(w:G)(D:fG)(code:Int):Prop:=∃p c q d,r=dR (dT #[bS D.e D.g D.x D.t (.S p (J D.E) c) (.S q (J D.N) d),.I code])/\mY B w p (J D.E) c q (J D.N) d D.E D.N
variable {l:LI}
def Own.dk4{R:Nat}(h:Own B w v l)(o:∀b,v.ownBlock=Y b->b≠R)(x y:dV):Own B ((w.setCell (Ad R 0) x).setCell (Ad R 1) y) v l:=by
 refine⟨h.1,?_⟩;obtain s|⟨g,m,j,rfl,r,q,i⟩:=h.2;{exact .L s};{exact .R ⟨g,m,j,rfl,r,((Pc _ _ _ _ (o g rfl)).Z (Pc _ _ _ _ (o g rfl))).Z q,i⟩}
def Tu{wr:G}{K:Nat}(e:rl l=rs)(m:Le rs K)(o:O (jU rs=a))(i:jT (U w.heap) wr (.S p K c) rs vs)(j:Bw w wr):aD3 w (rl l) (dR (dT #[.S p K c,.I (a:Int)])) wr:=by
 have r:=ae m;have q:=ae o;subst r q;rw[e];exact⟨p,c,vs,rfl,i,j⟩
def ND(l:LI)(rs:List R1)(a f:Nat):Prop:=
 qg dN (yl (J l+1) l)=rs++qg (rr rs) (yl f (l.drop a))/\jU rs=a/\f+J rs=J l+1/\J rs<=a/\(∀r∈rs,J r.2<=1000/\0<=r.1/\r.1<2^64)
variable {f:Nat}
def ND.stop(h:ND l rs a f)(i:nj (l.drop a)=dN):rl l=rs:=by
 unfold rl;rw[h.1,af8 i];simp[qg]
def ND.de8(h:ND l rs a f)(o:a<=J l){r:R1}(m:nj (l.drop a)=r)(j:sw (rr rs) r.1=dF):rl l=rs:=by
 obtain⟨i,rfl⟩:∃i,f=i+1:=⟨f-1,by have:=h.2.2.1;have:=h.2.2.2.1;omega⟩;unfold rl;rw[h.1,LF m];simp[qg,j]
def ND.next(h:ND l rs a f)(y:a<=J l){b:LI}(x:nj (l.drop a)=Y (s,b))(u:sw (rr rs) s)(m:J b<=1000/\0<=s/\s<2^64):ND l (rs++[(s,b)]) (a+(14+J b)) (f-1):=by
 obtain⟨q,E,D,B,o⟩:=h;obtain⟨i,rfl⟩:∃i,f=i+1:=⟨f-1,af⟩;refine⟨?_,by rw[aJ8];simp[jU];omega,bq,bq,?_⟩;{rw[q,LF x,cd3,Ka,show a+(14+J b)=a+(J b+14) by omega,<-Fs];simp[qg,u,wY]};{intro r j;obtain h|h:=jd.1 j;{exact o r h};{simp at h;subst h;exact m}}
set_option maxRecDepth 100000 in
theorem bN2{len cap:Nat}(hR:Rd w (.S p len cap) l)(hB:aC l)(el:Le l len)(hlen:len<=1048576)(ui:len<=cap)(nI:cap<=maxLen):dQ dG 46 #[.S p len cap] w (aD3 w (rl l)):=by
 have HRB:=bG hR hB;clear hR hB;go_in;go_wp2
 go_loopw[4,5](λov i wr=>∃(a f K:Nat)(rs:List R1)(pv:OA)(cv:Nat)(vs:List dV),a<=len/\i=.I a/\ov=.S pv K cv/\Le rs K/\O (ND l rs a f)/\jT (U w.heap) wr (.S pv K cv) rs vs/\Bw w wr) (λ_ i _=>len+1-(intOf i).toNat)
 exact⟨0,len+1,0,[],dN,0,[],cO _,rfl,rfl,rfl,⟨by rw[<-ae el];rfl,rfl,by rw[<-ae el];rfl,eG _,aj⟩,jT.nil _ _,aR _ _⟩;{
 obtain⟨a,f,K,rs,pv,cv,vs,zQ,rfl,rfl,M,q,ho,az⟩:=hrel;have hKa:K<=1048576:=by have:=q.2.2.2.1;have:=ae M;omega
 obtain⟨SP,e14⟩:∃A:Nat,(a:Int)+14=(A:Int):=⟨a+14,af⟩;obtain⟨A2,e2⟩:∃A:Nat,(a:Int)+2=(A:Int):=⟨a+2,af⟩;obtain⟨EP,e10⟩:∃A:Nat,(a:Int)+10=(A:Int):=⟨a+10,af⟩;have bl9:SP=a+14:=af;have Af:A2=a+2:=af;have bm0:EP=a+10:=af;have HA:=du bl9 Af bm0;by_cases h14:SP<=len;{
 have ct9:=mF SP len;have Gv:=ae el;obtain⟨b,o,rfl,-,-⟩:=HRB.1.at af;let⟨m,em⟩:=aG (l.drop a);have QM:aC m:=by rw[em];exact HRB.2.drop a
 have Ir:J m=len-a:=by rw[em,tX];omega
 have hRm:∀d,Rd w (.S (Ad b (o+a)) (len-a) d) m:=λd=>HRB.1.cut a len zQ af _ (.R rfl) d m (by rw[em,lY af]);let⟨N,eN⟩:=aG (DM m);let⟨Ah,rU⟩:=cd2 QM;rw[<-eN]at Ah rU;obtain⟨Z,eZ⟩:∃Z:Nat,(SP:Int)+(N:Int)=(Z:Int):=⟨SP+N,af⟩;obtain⟨E,eE⟩:∃E:Nat,(EP:Int)+(N:Int)=(E:Int):=⟨EP+N,af⟩;have r1:∀(d:Nat)(w':G),Bw w w'->Rd w' (.S (Ad b (o+a)) 2 d) (sub m 0 2):=λd w' aP=>((hRm d).H aP).cut 0 2 af af _ (.R rfl) d _ rfl;have s1:J (sub m 0 2)=2:=yG af;have g1:=mF a A2;have g2:=mF A2 cap;have g3:cap≠a:=af;have g4:A2-a=2:=af;have D:=Nw em QM Ir hRm eN Ah;have HZ:=bG eZ eE;have sQ:=ag r1;have nS:=ag s1;clear em QM Ir hRm eN Ah r1 s1 bl9 Af bm0 Gv;unfold maxLen at nI;go_wp2_with fail;refine br (aZ1 (sub m 0 2) _ _ 2 nS _ (ae sQ _ _ az) (D.2.1.sub 0 2) af af jC) λw1 au=>?_;rw[D.2.2.2.2.2];have b1:=ai az au;have Uy:=ho.H au;clear az au ho sQ nS;by_cases Ks:len<Z\/1000<N;{
 have uQ:=ag (q.stop (by obtain⟨em,-,Ir,-,eN,-⟩:=ae D;have:=ae HA;rw[<-em];unfold nj;rw[<-eN,aM af]))
 have xR:=ag q.2.1;by_cases hN:1000<N;{have uT:=qV 1000 N;go_wp2;refine cg (v:=dT #[.S pv K cv,.I (a:Int)]) (by simp[results,results46,go_sem]) rfl (Tu uQ M xR Uy b1)};{have uT:¬(1000:Int)<(N:Int):=af;have hZ':=bM len Z;go_wp2;refine cg (v:=dT #[.S pv K cv,.I (a:Int)]) (by simp[results,results46,go_sem]) rfl (Tu uQ M xR Uy b1)}};{
 have uT:¬(1000:Int)<(N:Int):=af;have hZ':=fq len Z;have tv:N<=1000:=af;have k1:=mF A2 EP;have k2:=mF EP cap;have k3:cap≠A2:=af;have k4:=mF EP E;have k5:=mF E cap;have k6:cap≠EP:=af;have k7:=mF a Z;have k8:=mF Z cap;have k9:EP-A2=8:=af;have XQ:E-EP=N:=af;have XP:Z-a=14+N:=af;have r2:∀(d:Nat)(w':G),Bw w w'->Rd w' (.S (Ad b (o+A2)) 8 d) (sub m 2 10):=λd w' aP=>by have:=(((D.2.2.2.1 d).H aP).cut 2 10 af (by have:=D.2.2.1;omega) (Ad b (o+a+2)) (.R rfl) d _ rfl);rw[show o+A2=o+a+2 by have:=ae HA;omega];exact this
 have r3:∀(d:Nat)(w':G),Bw w w'->Rd w' (.S (Ad b (o+EP)) N d) (sub m 10 (10+N)):=λd w' aP=>by have:=(((D.2.2.2.1 d).H aP).cut 10 (10+N) af (by have:=D.2.2.1;omega) (Ad b (o+a+10)) (.R rfl) d _ rfl);rw[show 10+N-10=N by omega]at this;rw[show o+EP=o+a+10 by have:=ae HA;omega];exact this
 have r4:∀(d:Nat)(w':G),Bw w w'->Rd w' (.S (Ad b (o+a)) (14+N) d) (sub m 0 (14+N)):=λd w' aP=>
  ((D.2.2.2.1 d).H aP).cut 0 (14+N) af (by have:=D.2.2.1;omega) (Ad b (o+a)) (.R rfl) d _ rfl
 have Dn:=ag r2;have tF:=ag r3;have Dj:=ag r4;have kq:O (J (sub m 2 10)=8):=yG (by have:=D.2.2.1;omega);have GY:O (J (sub m 10 (10+N))=N):=by show _=_;rw[yG (by have:=D.2.2.1;omega)];omega
 have VK:O (J (sub m 0 (14+N))=14+N):=by show _=_;rw[yG (by have:=D.2.2.1;omega)];omega
 let⟨sq0,sq1⟩:=Fl (D.2.1.sub 2 10) (by rw[ae kq];omega);clear r2 r3 r4;have wA2:=il A2;have cY3:=il EP;have cY2:=il SP;have wE:=il E;have wZ:=il Z;have fN:=D.2.1.sub 2 10;have hl8:(8:Nat)<=8:=eG _;have hl9:8<=cap-A2:=af;have cl4:cap-A2<=maxLen:=by unfold maxLen;omega
 have cl3:N<=2097152:=af;have jG:∀(vs:iA)(w:G),(callFunc 87 vs).run dG w=.ok (.enter 87 vs) w:=λvs w=>aU;have hcg:∀(vs:iA)(w:G),(callFunc 88 vs).run dG w=.ok (.enter 88 vs) w:=λvs w=>aU
 go_upto_region 6 with fail
 go_cut[7](λrp wc=>∃R pb cb,rp=Pz R/\U w1.heap<=R/\Au wc R (.U (num (sub m 2 10))) (.S pb N cb)/\Own (U w1.heap) wc (.S pb N cb) (sub m 10 (10+N))/\Bw w1 wc)
 case first=>(
 let⟨v,dz⟩:=aG w1.drew;have BV:O (Bw w1 v):=by rw[dz];exact aD.drew
 refine fk (λ_=>True) iq λhS=>?_;rw[<-dz];clear dz;refine iR 0 1 2 3 4 5 7 8 hS ?_;refine iC 9 10 11 12 hS ?_;refine fO 13 14 hS ?_
 iterate 3 (
  all_goals(first|refine vE 6 (λW hK=>?_)|refine vE 15 (λW hK=>?_)|refine vE 17 (λW hK=>?_)|refine AE 6 17 (λW hK=>?_) (λW hK=>?_)|refine AE 15 17 (λW hK=>?_) (λW hK=>?_))
  all_goals(first
   |(
    refine Tag.go 6 (jg (aZ1 (sub m 2 10) _ _ 8 kq _ (ae Dn _ _ (ai b1 BV)) fN hl8 hl9 cl4) ?_);rintro z9 v'⟨rfl,hb⟩;refine⟨_,rfl,?_⟩)
   |(
    refine Tag.go 15 (jg (Ci (n:=N) (l:=sub m 10 (10+N)) GY (ae tF _ _ (ai b1 BV)) cl3) ?_);rintro z9 v'⟨p3,c3,rfl,o3,hb⟩;refine⟨_,rfl,?_⟩
    try have RN:=ag (λb e=>show b≠R by have:=(Own.lt o3 b e).1;have:=RC.1;omega)
    have RO:=bG (Own.h o3 BV.size) (λb e=>(Own.lt o3 b e).2);have T16:=iq;clear o3)
   |(
    refine Tag.go 17 ?_;go_simp;obtain⟨v',hv,hb,zv,cv',-⟩:=bQ v #[.U 0,aq] 90;rw[<-hv]
    try have RN:=ag (λb e=>show b≠U v.heap by have:=RO.2 b e;omega)
    have RB:=ag BV.size;let⟨R,hR⟩:=aG (U v.heap);rw[<-hR]at cv'⊢
    try rw[<-hR]at RN
    rw[<-hR]at RB;have RC:=bG (by omega:R<U v'.heap) cv';clear hv zv cv' hR))
  all_goals(
   have zb:=hb.size
   try have RO:=bG (Own.H RO.1 hb) (λb e=>ku (RO.2 b e) zb)
   try have RC:=bG (ku RC.1 zb) (RC.2.H RC.1 hb)
   have BV:=ag (ai BV hb);refine bL hK iq λhS=>?_;clear hK W hb zb
   try(
    clear T16;refine tk 16 hS (h:=?_);simp only[Act.put,xa,xb,xc])
   rename G=>v
   skip))
 all_goals(
  refine ew 18 (λW hK=>?_);have n0:=RC.2.1 0 _ rfl;have n1:=RC.2.1 1 _ rfl;have nf:=RC.2.2;go_simp;refine bL hK iq λhS=>?_;clear hK W hS;refine fy ?_;go_wp2_with fail;go_meet;refine⟨R,p3,c3,rfl,RB,⟨by simp[go_sem,n0,n1],by simp[go_sem,n0,n1]⟩,?_,(ae BV |>.setCell (by exact ae RB) _).setCell (by exact ae RB) _⟩;exact Own.dk4 RO.1 RN _ _))
 case rest=>(
 obtain⟨R,pb,cb,rfl,oQ,hA,oB,nM⟩:=hcut;have bc:=ai b1 nM;have iW:=Uy.H nM;have ct2:=D.2.1.sub 10 (10+N);have u4:=tK VK (ae Dj (cap-a) _ bc.drew);have hch:∀(vs:iA)(w:G),(callFunc 54 vs).run dG w=.ok (.enter 54 vs) w:=λvs w=>aU;clear nM jG hcg Dn tF kq;go_wp2_with fail;refine fk (λw'=>Au w' R (.U (num (sub m 2 10))) (.S pb N cb)/\(convert 22 9 (.S (Ad b (o+a)) (14+N) (cap-a))).run dG w'=.ok (.string (aZ (sub m 0 (14+N)))) w') ⟨hA,u4⟩ λhS=>?_;refine iR 0 3 4 5 6 7 8 9 hS ?_;refine tn 10 hS ?_;refine ry [1] ?_;refine cn (λW hK=>?_) ?_;{
 refine Hj aS (f:=54) aS (v1:=xI (num (sub m 2 10)) (.S pb N cb)) aS (λ_=>hch _ _) (bN3 (s:=num (sub m 2 10)) (p:=pb) (c:=cb) (n:=N) (l:=sub m 10 (10+N)) GY (oB.rd.H (aR (U wc.heap) wc).drew) ct2 tv sq0 sq1) ?_;rintro e w5⟨p5,c5,rfl,o5,co3⟩;refine⟨_,rfl,?_⟩;have cY:Bw wc w5:=ai (aR (U wc.heap) wc).drew co3;have A5:=hA.H cY;have u5:=tK VK (ae Dj (cap-a) _ (ai bc cY));have e5:=tK (l:=BS (num (sub m 2 10)) (sub m 10 (10+N))) (by rw[aP1,ae GY]) o5.rd;refine hK.out _ _ ?_ (λhS=>?_);{exact⟨A5,u5⟩};clear hK W
 try simp only[Act.put,ca7,Pu,aV0]
 refine ew 2 λW hK=>?_;go_simp;refine hK.out _ _ ?_ (λhS=>?_);{exact⟨A5,u5⟩};clear hK W
 try simp only[Act.put,ca7,Pu,aV0]
 refine tn 11 hS ?_;refine fy ?_;have V:=ai bc cY;have X:=iW.H cY;have oB5:Own (U w.heap) w5 (.S pb N cb) (sub m 10 (10+N)):=Own.h (Own.H oB cY) b1.size;have av1:∀u'∈vs,SJ u' (.S pb N cb):=λu' PM bb e1 e2=>by have h1:=Uy.lt u' PM bb e1;have h2:=(Own.lt oB bb e2).1;omega
 have HC:=ag (Nq (bS4 (s:=num (sub m 2 10)) ct2) (D.2.1.sub 0 (14+N)));have HNB:=ag (show¬(J m<14+N\/1000<N) by have:=D.2.2.1;have:=ae HA;omega);have oW:=ag (show a+(14+N)<=len by have:=ae HA;omega);clear cY co3 o5 hA u4 iW bc oB hS u5 e5 k1 k2 k3 k4 k5 k6 k7 k8 k9 XQ XP g1 g2 g3 g4 wA2 cY3 cY2 wE wZ Dj VK hch hl8 hl9 cl4 cl3 fN Uy Ks hZ' e2 e10 e14 eZ eE ct9 HZ;have xR:=ag q.2.1;rw[ae HC];clear HC;by_cases hq:BS (num (sub m 2 10)) (sub m 10 (10+N))=sub m 0 (14+N);{
 have Ck:nj (l.drop a)=Y (num (sub m 2 10),sub m 10 (10+N)):=by obtain⟨em,-,Ir,-,eN,-⟩:=ae D;have:=ae HA;rw[<-em];unfold nj;rw[<-eN,aL (ae HNB),aM hq]
 have Sq:=ag Ck;rw[JV hq,Bool.not_true];clear hq Ck;by_cases QH:K=0;{
 subst QH;have fv:sw (rr rs) (num (sub m 2 10)):=by rw[Fp (ae M)];rfl
 have kH:=ag fv;clear fv;go_wp2_with(at_builtin;refine bI8 rfl rfl (B:=U w.heap) (v:=.S pv 0 cv) (rs:=rs) (vs:=vs) (n:=0) M (U w5.heap) rfl rfl (X.H (aD.alloc aA _)) (r:=(num (sub m 2 10),sub m 10 (10+N))) (u:=.S pb N cb) aj aj (Own.H oB5 (aD.alloc aA _)) av1 af (by have:=V.size;simp;omega) ?_);intro p9 c9 w9 QD pM;have b9:Bw w w9:=(V.alloc V.size _).grown pM (by have:=V.size;simp;omega) (λbb e=>(X.aj2 bb e).1);have eN3:=ae GY;have Qd:=ag (q.next (by rw[ae el];exact zQ) Sq kH ⟨af,sq0,sq1⟩);have eKn:O (J (rs++[(num (sub m 2 10),sub m 10 (10+N))])=0+1):=by show _=_;rw[dm,ae M];rfl
 clear pM X oB5 av1 V A5;go_wp2;go_roundw
 case rel=>(
 refine⟨a+(14+N),f-1,0+1,_,p9,c9,_,oW,by go_num,rfl,eKn,?_,QD,b9⟩;have:=ae Qd;rw[eN3]at this;exact this)
 case measure=>simp[intOf];omega}
 {
 have UI:K-1<J rs:=by rw[ae M];omega
 obtain⟨⟨t,bt⟩,vQ⟩:∃r,rs[K-1]?=Y r:=⟨_,bD UI⟩;have Yo:rr rs=t:=by unfold rr;rw[am8,ae M,vQ];rfl
 let⟨t0,t1⟩:=q.2.2.2.2 _ (bu vQ) |>.2;obtain⟨u,hu⟩:∃u,vs[K-1]?=Y u:=⟨_,bD (by rw[X.len];exact UI)⟩;obtain⟨_,h0⟩|⟨g,Lc,cur,ev,vT,Iw,_,_,_,_⟩:=id X.row.2;{have:=ae M;omega};{
 simp only[rj]at ev;obtain⟨rfl,-,rfl⟩:=ev;have Tt:=X.row;rw[ae M]at Tt;have d0:=(Tt.cellAt (2*(K-1)) af).Z (aj7 rs vs (K-1) _ u vQ hu).1;rw[Xt]at d0;dsimp only at d0;let⟨K1,Ri⟩:=aY (K-1);rw[Ri]at d0;have tz:(K:Int)-1=(K1:Int):=af;have rU:=qV 0 K;have D8:=bM K1 K;have Cy:0<K:=af;have Gn:K1<=1048578:=af;have MR:(K1:Int)<=1048578:=af;have MQ:=il K1;clear UI vQ hu Tt Iw Ri;by_cases fv:sw t (num (sub m 2 10))=dY;{
 have kH:O (sw (rr rs) (num (sub m 2 10))):=by show _=_;rw[Yo];exact fv
 have e1:t≠18446744073709551615/\num (sub m 2 10)=t+1:=by simpa[sw]using fv
 have f1:(t==18446744073709551615)=dF:=by simp[e1.1]
 have f2:IntKind.u64.wrap (t+1)=t+1:=u64_wrap_id _ af af;have f3:(num (sub m 2 10) != t+1)=dF:=by simp[e1.2]
 clear fv Yo e1;go_wp2_with(at_builtin;refine bI8 rfl rfl (B:=U w.heap) (v:=.T g K cv) (rs:=rs) (vs:=vs) (n:=K) M (U w5.heap) rfl rfl (X.H (aD.alloc aA _)) (r:=(num (sub m 2 10),sub m 10 (10+N))) (u:=.S pb N cb) aj aj (Own.H oB5 (aD.alloc aA _)) av1 af (by have:=V.size;simp;omega) ?_);intro p9 c9 w9 QD pM;have b9:Bw w w9:=(V.alloc V.size _).grown pM (by have:=V.size;simp;omega) (λbb e=>(X.aj2 bb e).1);have eN3:=ae GY;have Qd:=ag (q.next (by rw[ae el];exact zQ) Sq kH ⟨af,sq0,sq1⟩);have eKn:O (J (rs++[(num (sub m 2 10),sub m 10 (10+N))])=K+1):=by show _=_;rw[dm,ae M];rfl
 clear pM X oB5 av1 V A5;go_wp2;go_roundw
 case rel=>(
 refine⟨a+(14+N),f-1,K+1,_,p9,c9,_,oW,by go_num,rfl,eKn,?_,QD,b9⟩;have:=ae Qd;rw[eN3]at this;exact this)
 case measure=>simp[intOf];omega}
 {
 have bd1:sw t (num (sub m 2 10))=dF:=by simpa using fv
 have uQ:=ag (q.de8 (by rw[ae el];exact zQ) Sq (by rw[Yo];exact bd1));by_cases ht:t=18446744073709551615;{
 have f1:(t==18446744073709551615):=by simp[ht]
 clear fv bd1 Yo ht;go_wp2;refine cg (v:=dT #[.T g K cv,.I (a:Int)]) (by simp[results,results46,go_sem]) rfl (Tu uQ M xR X V)};{
 have aN:num (sub m 2 10)≠t+1:=by intro e;apply fv;simp[sw,ht,e]
 have f1:(t==18446744073709551615)=dF:=by simp[ht]
 have f2:IntKind.u64.wrap (t+1)=t+1:=u64_wrap_id _ af af;have f3:(num (sub m 2 10) != t+1):=by simp[aN]
 clear fv bd1 Yo ht aN;go_wp2;refine cg (v:=dT #[.T g K cv,.I (a:Int)]) (by simp[results,results46,go_sem]) rfl (Tu uQ M xR X V)}}}}};{
 have uQ:=ag (q.stop (by obtain⟨em,-,Ir,-,eN,-⟩:=ae D;have:=ae HA;rw[<-em];unfold nj;rw[<-eN,aL (ae HNB),aL hq]))
 rw[AM hq,aW1];clear hq;go_wp2;refine cg (v:=dT #[.S pv K cv,.I (a:Int)]) (by simp[results,results46,go_sem]) rfl (Tu uQ M xR X V)}};exact fg)}}
 {have ct9:¬(SP:Int)<=(len:Int):=af;have uQ:=ag (q.stop (bS5 (by rw[tX,ae el];omega)));have xR:=ag q.2.1;clear bl9 Af bm0;go_wp2;refine cg (v:=dT #[.S pv K cv,.I (a:Int)]) (by simp[results,results46,go_sem]) rfl (Tu uQ M xR ho az)}}
variable {xs:LI}
def PB.my{M N z0:Nat}(h:PB w M N v xs A)(m:z0<M)(i:∀z,z≠z0->w'.heap[z]?=w.heap[z]?):PB w' M N v xs A:=
 have k:∀a∈A,w'.heap[a.b]?=w.heap[a.b]?:=λa j=>i _ (aK (h.ap.lo a j))
 ⟨h.rd.kR h.lv k,h.cap,h.lv,h.ap.W k,h.hi⟩
def PU.my{M N z0:Nat}(h:PU w M N v xs A)(m:z0<M)(i:∀z,z≠z0->w'.heap[z]?=w.heap[z]?):PU w' M N v xs A:=
 have k:∀a∈A,w'.heap[a.b]?=w.heap[a.b]?:=λa j=>i _ (aK (h.ap.lo a j))
 ⟨h.rd.kR h.lv k,h.lv,h.ap.W k,h.hi⟩
def gK.pu(h:gK B w (.S p n c) l):∃A,PU w B (U w.heap) (.S p n c) l A:=by
 let⟨A,q,m,y,x⟩:=WI (kd:=.u64) h;refine⟨A,?_,q,m,λa s=>m.jY.lt s⟩;obtain⟨e,o⟩|⟨g,j,u,e,M,E,D⟩:=h.2;{rw[e];exact⟨dN,0,by rw[o],.L (sX.1 o)⟩};{rw[e]at h⊢;refine⟨_,j,rfl,.R ⟨g,0,rfl,λi r=>?_⟩⟩;have:=L5 h i af;rw[mO,this];simp[im,r]}
def mZ.rde(h:mZ B w v es):qF w v es:=by
 obtain⟨p,c,rfl,-,-,o⟩:=RT.form h;refine⟨p,c,rfl,?_⟩;by_cases j:es=[];{exact .L j};{obtain⟨g,rfl⟩:=o (Pb.2 j);refine .R ⟨g,0,rfl,λi e q=>?_⟩;obtain⟨s,-,⟨P,r,m⟩,hc,-⟩:=RT.at h q;subst r;exact⟨by have:=hc 0 _ rfl;simpa using this,P,by have:=hc 1 _ rfl;simpa using this,m.1⟩}
def eh.rds(h:eh B w v ss Qs):lI w v ss:=by
 have u:J (ss.zip Qs)=J ss:=by rw[Ub,h.len];simp
 obtain⟨p,c,e,-,-,m⟩:=RT.form h.row;rw[u]at e m;subst e;refine⟨p,c,rfl,?_⟩;by_cases q:ss=[];{exact .L q};{obtain⟨g,rfl⟩:=m (Pb.2 q);refine .R ⟨g,0,rfl,λi s j=>?_⟩;have r:=(bg.1 j).1;obtain⟨Q,o⟩:∃Q,Qs[i]?=Y Q:=⟨_,bD (h.len▸r)⟩;obtain⟨D,-,y,hc,-⟩:=RT.at h.row (i:=i) (x:=(s,Q)) (by rw[Ma];exact⟨j,o⟩);rw[show D=_ from y]at hc;exact⟨by have:=hc 0 _ rfl;simpa using this,by have:=hc 1 _ rfl;simpa using this,Q,by have:=hc 2 _ rfl;simpa using this,(h.tM i s Q j o).rde⟩}
def mZ.dr6(h:mZ B w v es):sj w v es:=by
 obtain⟨p,c,rfl,-,-,o⟩:=RT.form h;refine⟨p,c,rfl,?_⟩;by_cases m:es=[];{exact .L m};{obtain⟨g,rfl⟩:=o (Pb.2 m);refine .R ⟨g,0,rfl,λi e q=>?_⟩;obtain⟨s,-,⟨P,r,j⟩,hc,-⟩:=RT.at h q;subst r;exact⟨by have:=hc 0 _ rfl;simpa using this,P,by have:=hc 1 _ rfl;simpa using this,j.1,j.2.2⟩}
def eh.dr5(h:eh B w v ss Qs):kV w v ss:=by
 have u:J (ss.zip Qs)=J ss:=by rw[Ub,h.len];simp
 obtain⟨p,c,e,-,-,m⟩:=RT.form h.row;rw[u]at e m;subst e;refine⟨p,c,rfl,?_⟩;by_cases q:ss=[];{exact .L q};{obtain⟨g,rfl⟩:=m (Pb.2 q);refine .R ⟨g,0,rfl,λi s j=>?_⟩;have r:=(bg.1 j).1;obtain⟨Q,o⟩:∃Q,Qs[i]?=Y Q:=⟨_,bD (h.len▸r)⟩;obtain⟨D,-,y,hc,-⟩:=RT.at h.row (i:=i) (x:=(s,Q)) (by rw[Ma];exact⟨j,o⟩);rw[show D=_ from y]at hc;exact⟨by have:=hc 0 _ rfl;simpa using this,by have:=hc 1 _ rfl;simpa using this,Q,by have:=hc 2 _ rfl;simpa using this,(h.tM i s Q j o).dr6⟩}
def oR(t:Int)(ss:List aB):LI:=(ss.filter λs=>dD (s.2.1<=t)).map (·.1)
def cx8{s:aB}(h:ss[k]?=s):oR t (ss.take (k+1))=oR t (ss.take k)++(if s.2.1<=t then[s.1]else[]):=by
 rw[pZ,h];simp only[oR,Option.toList_some,Xl,pK];congr 1;by_cases i:s.2.1<=t<;>simp[i]
def ay4(t:Int)(ss:List aB):J (oR t ss)<=J ss:=by
 simp only[oR,ir];exact Uc _ _
def di1(e g x t:Int)(p q:OA)(c n d m:Nat)(ss:List aB)(ns:List ar)(en:Le ss n)(em:Le ns m)(w:G)(h:lI w (.S p n c) ss)(hN:gJ w (.S q m d) ns)(hn:Mg n)(hm:Mg m)(gM:O (Bs ss))(cQ:O (Bn ns))(eB:O (lr e g x t ss ns)):dQ dG 19 #[bS e g x t (.S p n c) (.S q m d)] w λr w'=>∃v,r=dR v/\gK (U w.heap) w' v (oR t ss)/\Bw w w':=by
 have HR:=ag λ(w':G)(hb:Bw w w')=>aF (h.H hb) (hN.H hb);clear h hN;have iu:=kx Tryz.infoU64;let⟨W,N⟩:=aG (w.alloc (dO #[.U e,.U g,.U x,.I t,.S p n c,.S q m d] 41));have bW:=gF N;have jH:fK W (U w.heap) e g x t (.S p n c) (.S q m d):=by rw[N];simp[fK]
 have zW:U W.heap=U w.heap+1:=by rw[N];simp
 go_in;go_wp2_with fail;rw[<-N];clear N;refine br (ah9 en em (ae HR _ bW).1 (ae HR _ bW).2 hn hm gM cQ eB) λw1 au=>?_;have b1:=ai bW au;have z1:U w.heap+1<=U w1.heap:=aK au.size;have C1:=ag (jH.H au);clear au bW jH zW;go_wp2_with fail
 go_loopw[3,4](λov iv wr=>∃(k:Nat),k<=n/\iv=.I k/\gK (U w.heap+1) wr ov (oR t (ss.take k))/\Bw w wr/\O (fK wr (U w.heap) e g x t (.S p n c) (.S q m d))) (λ_ iv _=>n-(intOf iv).toNat)
 exact⟨0,cO _,rfl,(by simpa[oR,gK]using lZ w1 (U w.heap+1) 27 1),b1,C1⟩;{
 obtain⟨k,hk,rfl,ho,R,bj⟩:=hrel;let⟨i0,i1,i2,i3,i4,i5⟩:=ae bj;by_cases aH:k<n;{
 have cL:=bM k n;have bR:k<J ss:=ae en▸aH;let⟨⟨Z,D,Q⟩,hy⟩:=nR bR;obtain⟨b,o,rfl,Kq,MH⟩:∃b o,p=(Ad b o)/\I wr (Ad b (o+k*3))=dU Z/\I wr (Ad b (o+k*3+1))=dI D:=by let⟨p',c',ev,hd⟩:=(ae HR _ R).1;obtain⟨rfl,-,-⟩:=jJ ev;obtain h0|⟨b,o,h1,h2⟩:=hd;{rw[h0]at bR;simp at bR};{obtain⟨q1,q2,-⟩:=h2 k _ hy;exact⟨b,o,h1,q1,q2⟩}
 have V:=cx8 (t:=t) hy;have Gb:=ay4 t (ss.take k);have rQ:J (oR t (ss.take k))<4194304:=by have:J (ss.take k)<=k:=J3 _ _;omega
 obtain⟨pv,cv,rfl⟩:=gK.form ho;let⟨L,eL⟩:=aG (oR t (ss.take k));let⟨L2,IV⟩:=aG (oR t (ss.take (k+1)));rw[<-eL]at ho rQ V⊢;rw[<-IV]at V;dsimp only at V;have Sg:=ag V;have Lw:=ag IV;have HO:=ag ho;have hz:U w.heap+1<=U wr.heap:=by have:=R.cell (p:=(Ad b o));have:=jO wr _ i0;simp at this;omega
 clear hy bR V Gb eL IV ho;go_wp2_with fail;refine fk (λw'=>I w' (Aw w 4)=dS (Ad b o) n c/\I w' (Ad b (o+k*3+1))=dI D/\I w' (Aw w 3)=dI t) (by exact⟨i4,MH,i3⟩) λhS=>?_;refine iR 0 1 2 3 4 5 6 7 hS ?_;refine tn 8 hS ?_;refine fy ?_;let⟨X,hX⟩:=aG wr.drew;rw[<-hX];have M:=lG hX;have bX:=ai R M;have E:=ag (bj.H M);have OX:=ag (HO.H M);have hzX:U w.heap+1<=U X.heap:=aK M.size;replace Kq:=al Kq M;clear hS hX M HO i0 i1 i2 i3 i4 i5 bj R MH hz;let⟨i0,i1,i2,i3,i4,i5⟩:=ae E;by_cases U0:D<=t;{
 have E1:O (L2=L++[Z]):=by have:=ae Sg;rw[aM U0]at this;exact this
 go_wp2_with(at_builtin;refine bI5 rfl _ _ rfl (U w.heap+1) (.S pv (J L) cv) L L2 Z E1 (U X.heap) rfl rfl (gK.H OX (aD.alloc aA _)) aj rQ bq ?_);intro p' c' w' o2 dt;have bA:Bw X (X.alloc (dO #[.U Z] 27)):=aD.alloc aA _;have b2:Bw w w':=(ai bX bA).grown dt bq (λb' e=>aK (OX.lt b' e).1);have st2:O (fK w' (U w.heap) e g x t (.S (Ad b o) n c) (.S q m d)):=
  (E.H bA).heap (dt.block (U w.heap) bq (λe=>aK (OX.lt (U w.heap) e.C).1))
 clear bA dt i0 i1 i2 i3 i4 i5 Kq;rw[ae Lw]at o2⊢;go_wp2;go_roundw;exact⟨k+1,af,by go_num,o2,b2,st2⟩;exact cW};{
 go_wp2;go_roundw
 case rel=>(
 have:=ae Sg;rw[aL U0,yQ]at this;exact⟨k+1,af,by go_num,by rw[<-ae Lw,this];exact ae OX,bX,E⟩)
 case measure=>simp[intOf];omega}}
 {
 have cL:=fq k n;obtain rfl:k=n:=af;have iW:gK (U w.heap) wr u3 (oR t ss):=by rw[lY (ae en▸eG _)]at ho;exact gK.h ho af
 go_wp2;go_ret;exact⟨_,rfl,iW,R⟩}}
def em6(t:Int)(w:G):dQ dG 132 #[.I t] w λr w'=>r=dR (.func (.func 193) #[] #[Pz (U w.heap)])/\w'=w.alloc (dO #[.I t] 3):=by
 go_in;go_wp2_with fail;go_ret;exact⟨rfl,rfl⟩
def em9(i D t:Int)(u:dV)(iG:Nat)(w:G)(h:I w (Ad iG 0)=dI t):dQ dG 193 #[.agg #[.U i,.I D,u],Pz iG] w (Rb (.bool (dD (D<=t))) w):=by
 have j:=al h ((aR (U w.heap) w).alloc aA (dO #[.U i,.I D,u] 97));go_in;go_wp2_with fail;go_ret;exact⟨rfl,aD.alloc aA _⟩
def dM8(e g x t:Int)(p q:OA)(c n d m:Nat)(ss:List aB)(ns:List ar)(en:Le ss n)(em:Le ns m)(w:G)(h:kV w (.S p n c) ss)(hN:gJ w (.S q m d) ns)(hn:Mg n)(hm:Mg m)(gM:O (Bs ss))(cQ:O (Bn ns))(og:O (Bu ns))(uf:O (Bo ns))(pO:ML w)(eB:O (lr e g x t ss ns)):dQ dG 65 #[bS e g x t (.S p n c) (.S q m d)] w λr w'=>∃v,r=dR v/\gK (U w.heap) w' v (oR t ss)/\Bw w w':=by
 have HR:=ag λ(w':G)(hb:Bw w w')=>aF (h.H hb) (aF (hN.H hb) (pO.H hb));clear h hN pO;let⟨W,hW⟩:=aG (w.alloc (dO #[.U e,.U g,.U x,.I t,.S p n c,.S q m d] 41));have bW:=gF hW;have jH:fK W (U w.heap) e g x t (.S p n c) (.S q m d):=by rw[hW];simp[fK]
 have zW:U W.heap=U w.heap+1:=by rw[hW];simp
 go_in;go_wp2_with fail;rw[<-hW];clear hW;refine br (ap6 en em (ae HR _ bW).1 (ae HR _ bW).2.1 hn hm gM cQ og uf (ae HR _ bW).2.2 eB) λw1 au=>?_;have b1:=ai bW au;have z1:U w.heap+1<=U w1.heap:=aK au.size;have C1:=ag (jH.H au);clear au bW jH zW;have i0:=ae C1;go_wp2_with fail;refine br (em6 t _) λE N=>?_;have ay:=gF N;have b2:=ai b1 ay;have C2:=ag (C1.H ay);have R:I E (Ad (U w1.heap) 0)=dI t:=by rw[N];simp
 clear N i0;have i0:=ae C2;go_wp2_with fail;have BH:=ag R;have z2:U w.heap+2<=U E.heap:=by have:=jO E _ R;simp at this;omega
 let⟨G1,eG1⟩:=aG (U w1.heap);rw[<-eG1]at BH⊢;have Eb:G1<U E.heap:=by have:=jO E _ R;simp at this;omega
 clear R b1 C1 eG1 i0 z1
 go_loopw[4,16](λov iv wr=>∃(k:Nat),k<=n/\iv=.I k/\gK (U E.heap) wr ov (oR t (ss.take k))/\Bw E wr) (λ_ iv _=>n-(intOf iv).toNat)
 exact⟨0,cO _,rfl,(by simpa[oR,gK]using lZ E (U E.heap) 27 1),aR _ _⟩;{
 obtain⟨k,hk,rfl,ho,az⟩:=hrel;have BB:=ai b2 az;have R:=al BH az;by_cases aH:k<n;{
 have cL:=bM k n;have bR:k<J ss:=ae en▸aH;let⟨⟨M,D,Q⟩,hy⟩:=nR bR;obtain⟨b,o,rfl,Kq,MH,u,IC⟩:∃b o,p=(Ad b o)/\I wr (Ad b (o+k*3))=dU M/\I wr (Ad b (o+k*3+1))=dI D/\∃pq V,I wr (Ad b (o+k*3+2))=dS pq (J Q) V:=by let⟨p',c',ev,Z⟩:=(ae HR _ BB).1;obtain⟨rfl,-,-⟩:=jJ ev;obtain h0|⟨b,o,h1,h2⟩:=Z;{rw[h0]at bR;simp at bR};{obtain⟨q1,q2,u,q3,⟨pq,V,rfl,-⟩⟩:=h2 k _ hy;exact⟨b,o,h1,q1,q2,pq,V,q3⟩}
 obtain⟨V,IC⟩:=IC;generalize J Q=nq at IC;have Cj:=cx8 (t:=t) hy;have Gb:=ay4 t (ss.take k);have rQ:J (oR t (ss.take k))<4194304:=by have:J (ss.take k)<=k:=J3 _ _;omega
 obtain⟨pv,cv,rfl⟩:=gK.form ho;let⟨L,eL⟩:=aG (oR t (ss.take k));let⟨L2,IV⟩:=aG (oR t (ss.take (k+1)));rw[<-eL]at ho rQ Cj⊢;rw[<-IV]at Cj;dsimp only at Cj;have Sg:=ag Cj;have Lw:=ag IV;have HO:=ag ho;have hz:U E.heap<=U wr.heap:=az.size;clear hy bR Cj Gb eL IV ho;go_wp2_with fail;let⟨X,hX⟩:=aG (wr.alloc (dO #[.U M,.I D,.S u nq V] 97));have lQ:=gF hX;have hcX:I X (Ad (U wr.heap) 0)=dU M:=by rw[hX];simp
 rw[<-hX];refine br (em9 M D t (.S u nq V) G1 _ (al R lQ)) λw3 aI=>?_;have b3:=ai (ai az lQ) aI;have O3:=ag ((HO.H lQ).H aI);have nK:=al hcX aI;have z3:U E.heap<=U w3.heap:=b3.size;clear hX lQ hcX aI HO Kq MH IC R BB az hz;by_cases U0:D<=t;{
 have Z:dD (D<=t):=by simp[U0]
 have E1:O (L2=L++[M]):=by have:=ae Sg;rw[aM U0]at this;exact this
 rw[Z];go_wp2_with(at_builtin;refine bI5 rfl _ _ rfl (U E.heap) (.S pv (J L) cv) L L2 M E1 (U w3.heap) rfl rfl (gK.H O3 (aD.alloc aA _)) aj rQ bq ?_);intro p' c' w' o2 dt;have bA:Bw w3 (w3.alloc (dO #[.U M] 27)):=aD.alloc aA _;have b4:Bw E w':=(ai b3 bA).grown dt bq (λb' e=>(O3.lt b' e).1);clear bA dt nK;rw[ae Lw]at o2⊢;go_wp2;go_roundw;exact⟨k+1,af,by go_num,o2,b4⟩;exact cW};{
 have Z:dD (D<=t)=dF:=by simp[U0]
 rw[Z];go_wp2;go_roundw
 case rel=>(
 have:=ae Sg;rw[aL af,yQ]at this;exact⟨k+1,af,by go_num,by rw[<-ae Lw,this];exact ae O3,b3⟩)
 case measure=>simp[intOf];omega}}
 {
 have cL:=fq k n;obtain rfl:k=n:=af;have iW:gK (U w.heap) wr u4 (oR t ss):=by rw[lY (ae en▸eG _)]at ho;exact gK.h ho af
 go_wp2;go_ret;exact⟨_,rfl,iW,BB⟩}}
end Go.Proofs.YtdloolggnjjfoaaGreatDoor
