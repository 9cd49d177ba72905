import Derived.Test.YthlkmijffhhimaaGreatDoorK7
import Derived.StillTailTactics
open Array renaming size->U
open Bool renaming false->dF,true->dY
open Decidable renaming decide->dD
open Go renaming undef->jQ,Calls->dQ,Value->dV,World->G
open Go.Ending renaming returned->dR
open Go.IntKind renaming u64->jU,i64->jV,wrap->jY
open Go.Obj renaming cells->dO
open Go.Proofs.Tryz renaming prog->dG
open Go.Region renaming wanted->jW
open Go.RowKit renaming Hid->O
open Go.Value renaming ownBlock->jB,slice->jC,string->jJ,int->jK,bool->jO,agg->jP,I->dI,pointer->dP,S->dS,tuple->dT,U->dU
open Go.World renaming alloc->jA,frozen?->jF,grownBy->jG,heap->Q,ownsMap->jM,setCell->jS,cell?->I
open Int renaming toNat->jN
open List renaming drop->jD,getD->jE,flatten->jL,range->jR,take->jT,eraseIdx->jX,zipWith->jZ,length->J
open Option renaming none->dN,some->Y
namespace Go.Proofs.YthlkmijffhhimaaGreatDoor
set_option maxHeartbeats 12800000
set_option linter.all false
set_option maxRecDepth 100000
open Go.ChangeShapes Go.WideShapes Go.ChangeAt Go.RowKit Go.Maps Go.Proofs.Tryz
variable {D d:DataW Unit}{i g b bs bn B z hh uu k n c m np nv cp cv g1 bytes c0 c1 n0 n1 n4 B' N n2 d1 d2 a1 a2 a3 a4 d3 d4 n3 gN j nh gy:Nat}{q es:List Ev}{ev:Ev}{ss ss':List aB}{s:aB}{l P V VL:LI}{w0 w w' iY:G}{nd nd':au}{v pt v0 v1 v2 v3 v4 v5 v6 v7:dV}{L L':iN}{ns ns':List au}{cs:iA}{ty:TypeId}{ops:iQ}{o:Oper}{a:Act}{ls xs PP:List LI}{x e t K S F iG dd kd C iI ow mo ep ge:Int}{p pp pq pv p0 p1 r ph pu qp qv qh qu:OA}{Qs vs:List dV}{fn:Func}{R:Ending->G->Prop}{E:Prop}{A:List Lf}{x1 x2:Operand}{ud:Array TypeId}{f:au->au}{left:Lit->Bool}
theorem rr.same{l o:List (Lit×Nat)}(h:rr D l)(j:∀p,p∈o↔p∈l):rr D o:=by
 refine⟨λk=>?_,λp i z=>h.at' p ((j p).1 i) z⟩;rw[h.hs k];exact⟨λ⟨p,i,m⟩=>⟨p,(j p).2 i,m⟩,λ⟨p,i,m⟩=>⟨p,(j p).1 i,m⟩⟩
theorem rr.del{l:List (Lit×Nat)}(h:rr D l){k:Lit}(u:l[i]?=Y (k,g))(y:∀(j:Nat)(p:Lit×Nat),l[j]?=Y p->p.1=k->j=i):rr (D.del k) (jX l i):=by
 have q:∀p,p∈jX l i↔p∈l/\p.1≠k:=λp=>by rw[ci3];constructor;{rintro⟨j,o,e⟩;exact⟨bq e,λr=>o (y j p e r)⟩};{rintro⟨m,M⟩;let⟨j,o⟩:=lh.1 m;refine⟨j,λe=>M ?_,o⟩;subst e;rw[u]at o;cases o;rfl}
 refine⟨λs=>?_,λp m z=>?_⟩;{by_cases e:s=k;{subst e;rw[has_del_same];constructor;{intro x;cases x};{rintro⟨p,m,r⟩;exact absurd r ((q p).1 m).2}};{rw[has_del_other e,h.hs s];constructor;{rintro⟨p,m,rfl⟩;exact⟨p,(q p).2 ⟨m,e⟩,rfl⟩};{rintro⟨p,m,rfl⟩;exact⟨p,((q p).1 m).1,rfl⟩}}};{let⟨E,B⟩:=(q p).1 m;rw[atKey_del_other B];exact h.at' p E z}
theorem aM6{α β γ:Type}(f:α->β->γ):∀(l:List α)(m:List β)(i:Nat),J l=J m->jZ f (jX l i) (jX m i)=jX (jZ f l m) i
 |[],[],i,_=>al
 |a::l,c::m,0,_=>al
 |a::l,c::m,i+1,h=>by simp[aM6 f l m i (by simpa using h)]
section
variable {w0 w w':World}{b bs bn:Nat}{D:SD}{SB NB HB UB:iN}
variable {i:Nat}{nd:au}
theorem PS.aO3(h:PS w0 w b bs bn D SB NB HB UB)(hi:D.N[i]?=nd)(hg:NB[i]?=Y g)(jq:HB[i]?=hh)(jv:UB[i]?=uu)(hz:z=g\/z=hh\/z=uu)(iO:One w0 w w' z)(hp:nd'.A=nd.A)(hN:PN w0 w' g hh uu nd'):PS w0 w' b bs bn {D with N:=D.N.set i nd'} SB NB HB UB:=by
 obtain⟨-,⟨V0,gc,-⟩,q3,q4⟩:=h.rV i nd g hh uu hi hg jq jv;let⟨es3,c3,m3⟩:=q3.at;let⟨es4,c4,m4⟩:=q4.at;let⟨d0,d1,d2,d3,d4,d5⟩:=h.hu;have Mj:=(bH.1 hi).1;have hhm:=bq jq;have hum:=bq jv;have nc:∀{y:Nat}{cs:iA}{ty:TypeId},w.heap[y]?=dO cs ty->(ty≠193\/y≠g)->y≠z:=λ{y cs ty}hy ht e=>by obtain rfl|rfl|rfl:=hz;{obtain ht|ht:=ht;{rw[e,gc]at hy;simp at hy;exact ht hy.2.C};{exact ht e}};{rw[e,m3]at hy;cases hy};{rw[e,m4]at hy;cases hy}
 have nm:∀{y:Nat}{es:Array MapEntry}{c:Nat},w.heap[y]?=Y (.map es c)->y≠hh->y≠uu->y≠z:=λ{y es c}hy h1 h2 e=>by obtain rfl|rfl|rfl:=hz;{rw[e,gc]at hy;cases hy};{exact h1 e};{exact h2 e}
 refine⟨h.be.Z iO.b,iO.obj h.hd (nc h.hd (.L bf)),h.vZ,?_,λj s1 g1 fO fo=>?_,h.snd,by rw[qS];exact h.xJ,by rw[qS];exact h.hlen,by rw[qS];exact h.zI,?_,λj jh gb h1 u1 fO fo qj lQ=>?_,h.Hy,h.lo,h.xt⟩;{let⟨M,n,o,r⟩:=h.vY;let⟨es,c,hm⟩:=ownsMap_at o;exact⟨M,n,iO.map o (nm hm (λe=>(d1 _ hhm).1 e.C) (λe=>(d2 _ hum).1 e.C)),r⟩};{have q:=h.vy j s1 g1 fO fo;obtain⟨-,u,h1,-⟩:=id q;exact q.W iO (nc h1 (.L bf))};{
 let⟨M,n,o,hn,m,hs⟩:=h.sP;let⟨es,c,hm⟩:=ownsMap_at o;refine⟨M,n,iO.map o (nm hm (λe=>(d1 _ hhm).2 e.C) (λe=>(d2 _ hum).2 e.C)),hn,?_,by simp only[qS];exact hs⟩;have e:jZ (λ(nd:au)g=>(ft nd.A,g)) (D.N.set i nd') NB=jZ (λ(nd:au)g=>(ft nd.A,g)) D.N NB:=by refine Ru λj=>?_;rw[tA,tA,vG];by_cases ej:i=j;{subst ej;rw[aK rfl,aK Mj,hi,hg];simp[hp]};{simp[ej]}
 rw[e];exact m};{simp only[vG]at fO;by_cases ej:i=j;{subst ej;rw[hg]at fo;rw[jq]at qj;rw[jv]at lQ;cases fo;cases qj;cases lQ;simp[Mj]at fO;subst fO;exact hN};{simp[ej]at fO;have q:=h.rV j jh gb h1 u1 fO fo qj lQ;obtain⟨-,⟨V,q1,-⟩,p3,p4⟩:=id q;let⟨es,c,m5⟩:=p3.at;let⟨Mz,c',m6⟩:=p4.at;have ej':¬j=i:=λe=>ej e.C;exact q.W iO (nc q1 (.R (ax0 h.Hy fo hg ej'))) (nm m5 (ax0 d3 qj jq ej') (d5 _ (bq qj) _ hum)) (nm m6 (λe=>d5 _ hhm _ (bq lQ) e.C) (ax0 d4 lQ jv ej'))}}
theorem PS.aO4(h:PS w0 w b bs bn D SB NB HB UB)(iO:One w0 w w' b)(e g x t:Int)(hd:w'.heap[b]?=dO #[.U e,.U g,.U x,.I t,.map bs,.map bn] 188):PS w0 w' b bs bn ⟨e,g,x,t,D.E,D.N⟩ SB NB HB UB:=by
 have E:∀{y:Nat}{cs:iA}{m:TypeId},w.heap[y]?=dO cs m->m≠188->y≠b:=λ{y cs m}i Z e=>by rw[e,h.hd]at i;simp at i;exact Z i.2.C
 have nm:∀{y:Nat}{es:Array MapEntry}{c:Nat},w.heap[y]?=Y (.map es c)->y≠b:=λ{y es c}i e=>by rw[e,h.hd]at i;cases i
 refine⟨h.be.Z iO.b,hd,h.vZ,?_,λj R g1 B s=>?_,h.snd,h.xJ,h.hlen,h.zI,?_,λj S gb hh N B s h1 h2=>?_,h.Hy,h.lo,h.xt⟩;{let⟨M,n,o,r⟩:=h.vY;exact X6};{have q:=h.vy j R g1 B s;obtain⟨-,u,h1,-⟩:=id q;exact q.W iO (E h1 bf)};{let⟨M,n,o,r⟩:=h.sP;exact X6};{have q:=h.rV j S gb hh N B s h1 h2;obtain⟨-,⟨V,q1,-⟩,q3,q4⟩:=id q;let⟨es,c,X⟩:=q3.at;let⟨Mz,c',W⟩:=q4.at;exact q.W iO (E q1 bf) (nm X) (nm W)}
theorem PS.eJ7(h:PS w0 w b bs bn D SB NB HB UB)(hi:D.N[i]?=nd)(iO:One w0 w w' bn)(hd:∀(j:Nat)(z:au),D.N[j]?=z->ft z.A=ft nd.A->j=i)(hM:∀M n,jM w dG 9 kc bn n M->jM w' dG 9 kc bn n (M.del (ft nd.A))):PS w0 w' b bs bn {D with N:=jX D.N i} SB (jX NB i) (jX HB i) (jX UB i):=by
 obtain⟨g,hh,uu,hg,jq,jv,-⟩:=h.nat hi;let⟨d0,d1,d2,d3,d4,d5⟩:=h.hu;let⟨M,n,o,hn,m,hs⟩:=h.sP;let⟨es0,c0,m0⟩:=ownsMap_at o;have nc:∀{y:Nat}{cs:iA}{ty:TypeId},w.heap[y]?=dO cs ty->y≠bn:=λ{y cs ty}hy e=>by rw[e,m0]at hy;cases hy
 have hz:(jZ (λ(nd:au)g=>(ft nd.A,g)) D.N NB)[i]?=Y (ft nd.A,g):=by rw[tA,hi,hg]
 have hdz:∀(j:Nat)(p:Lit×Nat),(jZ (λ(nd:au)g=>(ft nd.A,g)) D.N NB)[j]?=Y p->p.1=ft nd.A->j=i:=λj p hj e=>by
  rw[tA]at hj;cases ha:D.N[j]? with
  |none=>rw[ha]at hj;cases hj
  | some a=>
   cases hc:NB[j]? with
   |none=>rw[ha,hc]at hj;cases hj
   |some c=>
    rw[ha,hc]at hj;cases hj;exact hd j a ha e
 have el:∀{l:iN},J l=J D.N->J (jX l i)=J (jX D.N i):=λhl=>by rw[Rr,Rr,hl]
 refine⟨h.be.Z iO.b,iO.obj h.hd (nc h.hd),h.vZ,?_,λj s1 g1 fO fo=>?_,h.snd,el h.xJ,el h.hlen,el h.zI,⟨_,n,hM M n o,hn,?_,?_⟩,λj jh gb h1 u1 fO fo qj lQ=>?_,h.Hy.sublist (LO _ _),h.lo,?_⟩;{let⟨M,n,o,r⟩:=h.vY;exact⟨M,n,iO.map o d0,r⟩};{have q:=h.vy j s1 g1 fO fo;obtain⟨-,u,h1,-⟩:=id q;exact q.W iO (nc h1)};{rw[aM6 _ _ _ _ h.xJ.C];exact m.del hz hdz};{have:=size_del (k:=ft nd.A) (as6 o uM);rw[(m.hs _).2 ⟨_,bq hz,rfl⟩]at this;simp only[qR]at this;simp only[Rr,(bH.1 hi).1,qR];omega};{
 rw[ba6]at fO fo qj lQ;obtain⟨j',Al,fx,hh2,Dn⟩:∃j',D.N[j']?=Y jh/\NB[j']?=Y gb/\HB[j']?=Y h1/\UB[j']?=Y u1:=by by_cases hj:j<i;{rw[aK hj]at fO fo qj lQ;exact⟨j,fO,fo,qj,lQ⟩};{rw[aJ hj]at fO fo qj lQ;exact⟨j+1,fO,fo,qj,lQ⟩}
 have q:=h.rV j' jh gb h1 u1 Al fx hh2 Dn;obtain⟨-,⟨V,q1,-⟩,p3,p4⟩:=id q;exact q.W iO (nc q1) (d1 _ (bq hh2)).2 (d2 _ (bq Dn)).2};{exact h.xt.sublist (((LO HB i).append (LO UB i)).cons_cons bn |>.cons_cons bs)}
variable {s:aB}
theorem PS.eJ6(h:PS w0 w b bs bn D SB NB HB UB)(hi:D.E[i]?=s)(iO:One w0 w w' bs)(hd:∀(j:Nat)(z:aB),D.E[j]?=z->z.1=s.1->j=i)(hM:∀M n,jM w dG 27 kc bs n M->jM w' dG 27 kc bs n (M.del (.U s.1))):PS w0 w' b bs bn {D with E:=jX D.E i} (jX SB i) NB HB UB:=by
 obtain⟨g,hg,-⟩:=h.sat hi;let⟨d0,d1,d2,d3,d4,d5⟩:=h.hu;let⟨M,n,o,hn,m,hs⟩:=h.vY;let⟨es0,c0,m0⟩:=ownsMap_at o;have nc:∀{y:Nat}{cs:iA}{ty:TypeId},w.heap[y]?=Y (dO cs ty)->y≠bs:=λ{y cs ty}hy e=>by rw[e,m0]at hy;cases hy
 have hz:(jZ (λ(s:aB)g=>(Lit.U s.1,g)) D.E SB)[i]?=Y (.U s.1,g):=by rw[tA,hi,hg]
 have hdz:∀(j:Nat)(p:Lit×Nat),(jZ (λ(s:aB)g=>(Lit.U s.1,g)) D.E SB)[j]?=Y p->p.1=.U s.1->j=i:=λj p hj e=>by
  rw[tA]at hj;cases ha:D.E[j]? with
  |none=>rw[ha]at hj;cases hj
  | some a=>
   cases hc:SB[j]? with
   |none=>rw[ha,hc]at hj;cases hj
   |some c=>
    rw[ha,hc]at hj;cases hj;exact hd j a ha (by simpa using e)
 refine⟨h.be.Z iO.b,iO.obj h.hd (nc h.hd),by rw[Rr,Rr,h.vZ],⟨_,n,hM M n o,hn,?_,?_⟩,λj s1 g1 fO fo=>?_,h.snd.sublist (LO _ _),h.xJ,h.hlen,h.zI,?_,λj jh gb h1 u1 fO fo qj lQ=>?_,h.Hy,h.lo,h.xt⟩;{rw[aM6 _ _ _ _ h.vZ.C];exact m.del hz hdz};{have:=size_del (k:=.U s.1) (as6 o oO);rw[(m.hs _).2 ⟨_,bq hz,rfl⟩]at this;simp only[qR]at this;simp only[Rr,(bH.1 hi).1,qR];omega};{
 rw[ba6]at fO fo;obtain⟨j',Al,fx⟩:∃j',D.E[j']?=Y s1/\SB[j']?=Y g1:=by by_cases hj:j<i;{rw[aK hj]at fO fo;exact⟨j,fO,fo⟩};{rw[aJ hj]at fO fo;exact⟨j+1,fO,fo⟩}
 have q:=h.vy j' s1 g1 Al fx;obtain⟨-,u,h1,-⟩:=id q;exact q.W iO (nc h1)};{let⟨M,n,o,r⟩:=h.sP;exact⟨M,n,iO.map o (λe=>d0 e.C),r⟩};{have q:=h.rV j jh gb h1 u1 fO fo qj lQ;obtain⟨-,⟨V,q1,-⟩,p3,p4⟩:=id q;exact q.W iO (nc q1) (d1 _ (bq qj)).1 (d2 _ (bq lQ)).1}
end
structure tX(ss:List aB):Prop where
 pw:ss.Pairwise (λs s'=>s.1<s'.1)
 rg:∀s∈ss,0<=s.1/\s.1<2^64
 ql:∀s∈ss,J s.2.2<=8
theorem cc6(h:J q<=8):J (vg q ev)<=8:=by
 unfold vg;split;{simp;omega};{split;{simp;omega};{exact h}}
theorem bt8(ss:List aB)(id:Int)(ev:Ev):(DJ ss id ev).map (·.1)=ss.map (·.1):=by
 unfold DJ;rw[uI];refine RM λs _=>?_;simp only[Function.comp];split<;>rfl
theorem tX.aC7(h:tX ss)(id:Int)(ev:Ev):tX (DJ ss id ev):=by
 refine⟨?_,λs m=>?_,λs m=>?_⟩;{have:=h.pw;rw[<-Db (f:=λs:aB=>s.1) (R:=(·<·))]at this⊢;rw[bt8];exact this};{obtain⟨i,j,rfl⟩:=fM.1 m;split<;>exact h.rg i j}
 {obtain⟨i,j,rfl⟩:=fM.1 m;split;{exact cc6 (h.ql i j)};{exact h.ql i j}}
theorem cD1(h:ss.Pairwise (λs o=>s.1<o.1))(q:ss[i]?=Y s)(ev:Ev):DJ ss s.1 ev=ss.set i (s.1,s.2.1,vg s.2.2 ev):=by
 refine Ru λj=>?_;unfold DJ;rw[qU,vG];by_cases r:i=j;{subst r;rw[aK rfl,aK (bH.1 q).1,q];simp};{
 rw[aJ r];cases hj:ss[j]? with
 |none=>rfl
 |some o=>
  have E:¬o.1=s.1:=λe=>by have y:=H6.1 h;let⟨D,x⟩:=bH.1 q;let⟨B,u⟩:=bH.1 hj;obtain m|m|m:=Og i j;{have:=y i j D B m;rw[x,u]at this;omega};{exact r m};{have:=y j i B D m;rw[x,u]at this;omega}
  simp[E]}
theorem Yi(ids:LI)(ev:Ev):∀ss:List aB,(yz ss ids ev).map (·.1)=ss.map (·.1):=by
 unfold yz
 induction ids with
 |nil=>intro ss;rfl
 |cons a r ih=>intro ss;rw[Lw,ih,bt8]
theorem eM5(w:G)(u:aD l)(x:Mg (J l)):∃i r W,(convert 9 22 (jJ (bg l))).run dG w=.ok (.S i (J l) r) W/\TB W (.S i (J l) r) l/\Bw w W:=by
 have q:=Lib.run_convert_string_bytes (P:=dG) w 9 22 5 (bg l) underlying9 underlying22 underlying5;rw[DQ]at q;refine⟨_,_,_,q,⟨⟨_,_,rfl,.R ⟨U (Q w),0,rfl,λj m=>?_⟩⟩,λb o=>.R ?_,_,_,_,rfl,au3 _ _ _ _,au2 _ _ _ _ kW⟩,⟨rfl,rfl,rfl,by rw[Lib.bytesWorld_size];omega,λk s=>Lib.bytesWorld_at_old _ _ _ _ s⟩⟩;{rw[nY,Lib.bytesWorld_cell _ _ _ _ (DQ▸m),cO5 u m]};{simp only[jB,oK]at o;subst o;exact⟨_,_,Lib.bytesWorld_at_new w 5 (bg l)⟩}
variable {D:SD}
theorem PS.look{SB NB HB UB:iN}(h:PS w0 w b bs bn D SB NB HB UB)(j:D.E[i]?=s)(hr:0<=s.1/\s.1<2^64):∃g,SB[i]?=Y g/\PE w0 w g s/\(Instr.lookup 185 (.map bs) (.U s.1) dF).run dG w=.ok (Pz g) w:=by
 let⟨g,q,r⟩:=h.sat j;obtain⟨M,n,o,-,m,-⟩:=h.vY;exact⟨g,q,r,cj6 o m (bq (i:=i) (by rw[tA,j,q])) hr⟩
theorem PS.Zu{SB NB HB UB:iN}(h:PS w0 w b bs bn D SB NB HB UB)(j:D.N[i]?=nd)(u:J nd.A<=2^20):∃g hh uu,NB[i]?=Y g/\HB[i]?=Y hh/\UB[i]?=Y uu/\PN w0 w g hh uu nd/\(Instr.lookup 186 (.map bn) (jJ (bg nd.A)) dF).run dG w=.ok (Pz g) w:=by
 let⟨g,hh,uu,q,s,r,x⟩:=h.nat j;obtain⟨M,n,o,-,m,-⟩:=h.sP;exact⟨g,hh,uu,q,s,r,x,cj7 o m (bq (i:=i) (by rw[tA,j,q])) u⟩
theorem PN.cells{g h u:Nat}(k:PN w0 w g h u nd):∃V,AB w0 w V nd.V/\w.heap[g]?=dO #[V,.U nd.D,.I nd.M,.map h,.U nd.P,.U nd.F,.map u] 193/\I w (Ad g 0)=Y V/\I w (Ad g 1)=dU nd.D/\I w (Ad g 2)=dI nd.M/\I w (Ad g 3)=Y (.map h)/\I w (Ad g 4)=dU nd.P/\I w (Ad g 5)=dU nd.F/\I w (Ad g 6)=Y (.map u)/\∀o,jF w (Ad g o)=dF:=by
 let⟨V,i,j⟩:=k.blk;exact⟨V,j,i,cI i 0,cI i 1,cI i 2,cI i 3,cI i 4,cI i 5,cI i 6,λo=>by simp[World.frozen?,i]⟩
theorem PS.oU{SB NB HB UB:iN}(h:PS w0 w b bs bn D SB NB HB UB):I w (Ad b 0)=dU D.e/\I w (Ad b 1)=dU D.g/\I w (Ad b 2)=dU D.x/\I w (Ad b 3)=dI D.t/\I w (Ad b 4)=Y (.map bs)/\I w (Ad b 5)=Y (.map bn)/\∀o,jF w (Ad b o)=dF:=
 ⟨cI h.hd 0,cI h.hd 1,cI h.hd 2,cI h.hd 3,cI h.hd 4,cI h.hd 5,λo=>by simp[World.frozen?,h.hd]⟩
structure NT(ss:List aB)(nd:au):Prop where
 Xg:aD nd.A
 pl:J nd.A<=2^20
 Nq:nd.X.Pairwise (·<·)
 Nu:J nd.X<=2^20
 U8:∀i∈nd.X,∃s∈ss,s.1=i
theorem cg9(h:ss'.map (·.1)=ss.map (·.1)){i:Int}(u:∃s∈ss,s.1=i):∃(j:Nat)(s:aB),ss'[j]?=Y s/\s.1=i:=by
 obtain⟨s,q,rfl⟩:=u;have:s.1∈ss'.map (·.1):=by rw[h];exact fM.2 ⟨s,q,rfl⟩
 let⟨o,m,e⟩:=fM.1 this;let⟨j,r⟩:=lh.1 m;exact⟨j,o,r,e⟩
theorem dR9{ss:LI}(h:iZ.Na B w v ss):∃p c gk,v=.S p (J ss) c/\B<=gk/\∀(j:Nat)(x:Int),ss[j]?=Y x->p=(Ad gk 0)/\gk<U (Q w)/\I w (Ad gk j)=dU x:=by
 obtain⟨rfl,rfl⟩|⟨g,m,rfl,q,r,o⟩:=h;{exact⟨dN,0,B,rfl,fS _,λj x i=>by simp at i⟩};{refine⟨_,m,g,rfl,q,λj x i=>⟨rfl,r,?_⟩⟩;have:=o j (by simpa using(bH.1 i).1);simpa[i]using this.1}
theorem One.Hq(r:Bw w0 w)(i:jG w w' z)(j:U (Q w0)<=z)(hm:∃es c,w.heap[z]?=Y (.map es c)):One w0 w w' z:=by
 refine⟨(bD (U (Q w0)) w).grown i r.size (λb e=>by cases e;exact j),λy o s=>i.block y o (λe=>s (by cases e;rfl)),λq u m hc=>?_⟩;obtain⟨es,c,hm⟩:=hm;rw[hm]at hc;cases hc
variable {s:LI}
theorem PS.CG{SB NB HB UB:iN}(h:PS w0 w b bs bn D SB NB HB UB)(hi:D.N[i]?=nd)(hg:NB[i]?=g)(jq:HB[i]?=hh)(jv:UB[i]?=uu)(iO:One w0 w w' uu)(hs:SM w' uu s):PS w0 w' b bs bn {D with N:=D.N.set i {nd with X:=s}} SB NB HB UB:=by
 let⟨lo,⟨V,q1,q2⟩,q3,q4⟩:=h.rV i nd g hh uu hi hg jq jv;let⟨es,c,m4⟩:=q4.at;refine h.aO3 hi hg jq jv (.R (.R rfl)) iO rfl ⟨lo,⟨V,iO.obj q1 (λe=>?_),q2.T iO.T⟩,q3.W iO (h.hu.2.2.2.2.2 _ (bq jq) _ (bq jv)),hs⟩;rw[e,m4]at q1;cases q1
theorem PS.Ey{SB NB HB UB:iN}(h:PS w0 w b bs bn D SB NB HB UB)(hi:D.N[i]?=nd)(hg:NB[i]?=g)(jq:HB[i]?=hh)(jv:UB[i]?=uu)(iO:One w0 w w' hh)(hs:SM w' hh s):PS w0 w' b bs bn {D with N:=D.N.set i {nd with y:=s}} SB NB HB UB:=by
 let⟨lo,⟨V,q1,q2⟩,q3,q4⟩:=h.rV i nd g hh uu hi hg jq jv;let⟨es,c,m3⟩:=q3.at;refine h.aO3 hi hg jq jv (.R (.L rfl)) iO rfl ⟨lo,⟨V,iO.obj q1 (λe=>?_),q2.T iO.T⟩,hs,q4.W iO (λe=>h.hu.2.2.2.2.2 _ (bq jq) _ (bq jv) e.C)⟩;rw[e,m3]at q1;cases q1
abbrev T3:List TypeId:=[148,193,188]
def PL(b bs bn:Nat)(SB NB HB UB:iN):iN:=b::bs::bn::(SB++(NB++(HB++UB)))
def Kb(L:iN)(w w':G):Prop:=∀z,z<U (Q w)->z∉L->w'.heap[z]?=w.heap[z]?
theorem Kb.H(h:Bw w w'):Kb L w w':=λz i _=>h.block z i
theorem Kb.Z{w1 i:G}(h:Kb L w w1)(o:Kb L w1 i)(q:U (Q w)<=U (Q w1)):Kb L w i:=λz m j=>(o z (by omega) j).Z (h z m j)
theorem Kb.h(h:Kb L w w')(j:∀z∈L,z∈L'):Kb L' w w':=λz i m=>h z i (λhm=>m (j z hm))
theorem One.kb(iO:One w0 w w' g)(m:g∈L):Kb L w w':=λz i j=>iO.k z i (λe=>j (e▸m))
theorem aP3{SB NB HB UB:iN}(h:O (PS w0 w b bs bn D SB NB HB UB))(nd:au)(hk:O (D.N[k]?=nd))(kd:Int)(hS:O (tX D.E))(R:O (NT D.E nd)):dQ dG 343 #[Pz b,.I kd,jJ (bg nd.A)] w λr w'=>PS w0 w' b bs bn (ly D k kd) SB NB HB UB/\(Fr T3 w w'/\Kb (PL b bs bn SB NB HB UB) w w')/\∃v,r=dR v:=by
 let⟨g,hh,uu,hg,jq,jv,hN,hlk⟩:=h.Zu hk R.pl;obtain⟨V,-,-,-,-,-,-,-,-,n6,-⟩:=hN.cells;obtain⟨-,-,-,-,-,h5,-⟩:=h.oU;let⟨M,nn,oM,hnn,sM,zM⟩:=hN.CG;have N:=eG hg jq jv;go_in
 go_wp21
 refine(iZ.aR9 uu nn M w oM (zM▸R.Nu)).h ?_;rintro r w1⟨v,ws,rfl,hA,hK,az⟩;have ews:ws=nd.X:=aH1 hA.lt R.Nq λx=>by rw[hA.mem x,sM];simp
 subst ews;obtain⟨p,c,gk,rfl,hgk,gO⟩:=dR9 hK;let⟨m,em⟩:=cg (J nd.X);rw[ae em];have hm:m<=2^20:=ae em▸R.Nu;go_wp2
 go_loopw[21](λiv wr=>∃(j:Nat)(SS:List aB),j<=m/\iv=.I j/\O (yz D.E (jT j nd.X) (kd,nd.A)=SS)/\O (PS w0 wr b bs bn {D with E:=SS} SB NB HB UB)/\O (tX SS)/\O (Fr T3 w wr)/\O (wr.heap[gk]?=w1.heap[gk]?)/\O (U (Q w1)<=U (Q wr))/\O (Kb (PL b bs bn SB NB HB UB) w wr)) (λiv _=>m-(jN (intOf iv)))
 exact⟨0,D.E,de _,rfl,di,h.H az,hS,(Fr.H (T:=T3) az),di,fS _,(Kb.H (L:=PL b bs bn SB NB HB UB) az)⟩;{
 obtain⟨j,SS,hj,rfl,S,Z,y,E,hGK,BQ,hKB⟩:=hrel;obtain⟨-,-,-,-,h4,h5,-⟩:=Z.oU;by_cases aH:j<m;{
 have dm:=cM j m;obtain⟨x,hx⟩:∃x,nd.X[j]?=Y x:=⟨_,bN (ae em▸aH)⟩;obtain⟨rfl,fy1,Is⟩:=gO j x hx;have fy7:=(gG hGK j).Z Is;obtain⟨i,s,hi,rfl⟩:=cg9 (ss':=SS) (ae S▸Yi _ _ _) (R.U8 x (bq hx));let⟨gs,xh,hE,Wl⟩:=Z.look hi (y.rg s (bq hi));let⟨pc,cc,W,hcv,hTB,Ke⟩:=eM5 wr R.Xg R.pl;have fx9:gs<U (Q w):=by obtain⟨s0,Cb⟩:∃s0,D.E[i]?=Y s0:=⟨_,bN (h.vZ▸(bH.1 xh).1)⟩;obtain⟨-,u,hc,-⟩:=h.vy i s0 gs Cb xh;exact gQ hc
 have hSn:=bR7 (ss:=D.E) (ev:=(kd,nd.A)) hx;rw[ae S,cD1 y.pw hi]at hSn;have PW:=ai (Z.H Ke);have SO2:=y.aC7 s.1 (kd,nd.A);rw[cD1 y.pw hi]at SO2;have rR:=bG hi xh;have HTB:=ai hTB;have ql:=y.ql s (bq hi);have XM:=ai Ke
 go_wp21
 refine(et8 (w0:=w0) W gs s kd nd.A pc _ cc PW.be (PW.vy i s gs rR.1 rR.2) (.R HTB) HTB.2.2 af).h ?_;rintro r w5⟨O5,E5,v5,rfl⟩;go_wp2;go_roundw;exact⟨j+1,_,af,by go_num,hSn,(PS.zJ (s':=(s.1,s.2.1,vg s.2.2 (kd,nd.A))) PW rR.1 rR.2 O5 rfl E5),SO2,((E.Z (Fr.H (T:=T3) XM)).Z O5.T),(((O5.k gk (by have:=XM.size;have:=ae BQ;omega) af).Z (XM.block gk (aM (ae BQ)))).Z hGK),(by have:=O5.b.size;have:=XM.size;have:=ae BQ;omega:U (Q w1)<=U (Q w5)),((hKB.Z (Kb.H XM) E.1).Z (O5.kb (by simp[PL,bq rR.2])) (by have:=XM.size;have:=E.1;omega))⟩;exact dy};{have dm:=ga j m;have e1:=ae S;rw[nZ (by rw[ae em];omega)]at e1;have X:=Z.rV k nd g hh uu hk N.1 N.2.1 N.2.2;obtain⟨V,-,-,-,-,-,-,-,-,n6,-⟩:=X.cells;obtain⟨M5,n5,o5,-,-,-⟩:=X.CG;let⟨vv,w5,gx,vo,mY,hs5⟩:=bY6 underlying166 o5 0;have HO5:=eG vo mY hs5;go_wp2;go_end0;have iO:=One.Hq Z.be HO5.2.1 X.lo.2.2 (ownsMap_at o5);refine⟨?_,⟨E.Z iO.T,hKB.Z (iO.kb (by simp[PL,bq N.2.2])) E.1⟩,_,rfl⟩;unfold ly;rw[ae hk];simp only[e1];exact PS.CG (s:=[]) Z hk N.1 N.2.1 N.2.2 iO ⟨_,0,HO5.1,af,lX.nil,rfl⟩}}
theorem dl1{SB NB HB UB:iN}(h:O (PS w0 w b bs bn D SB NB HB UB))(nd:au)(i:O (D.N[k]?=nd))(kd:Int)(m:O (tX D.E))(j:O (NT D.E nd)):Cp 343 #[Pz b,.I kd,jJ (bg nd.A)] w λr w'=>PS w0 w' b bs bn (ly D k kd) SB NB HB UB/\Fr T3 w w'/\∃v,r=dR v:=(aP3 h nd i kd m j).h λr w'⟨h1,h2,h3⟩=>⟨h1,h2.1,h3⟩
variable {D:DataW Unit}
theorem lX.has(h:lX D s)(id:Int):Maps.has D (.U id)=s.contains id:=by
 rw[Ry,h];simp
theorem Jl{id x:Int}:x∈lZ s id↔x∈s/\x≠id:=by
 unfold lZ;simp
theorem Ns{id:Int}(h:s.Pairwise (·<·)):(lZ s id).Pairwise (·<·):=h.filter _
theorem QK:∀{s:LI}{id x:Int},x∈me s id↔x=id\/x∈s
 |[],id,x=>by simp[me]
 |y::r,id,x=>by
  unfold me;split;{rw[gD,Jl];by_cases e:x=id<;>simp[e]}
  {rw[gD,QK,gD];constructor;{exact ao0};{exact ao0}}
theorem U9:∀{s:LI}{id:Int},s.Pairwise (·<·)->(me s id).Pairwise (·<·)
 |[],id,_=>by simp[me]
 |y::r,id,h=>by unfold me;let⟨h1,h2⟩:=LU.1 h;split;{rename_i hle;refine LU.2 ⟨λz i=>?_,Ns h⟩;let⟨j,m⟩:=Jl.1 i;obtain rfl|j:=gD.1 j;{omega};{have:=h1 z j;omega}};{rename_i hle;refine LU.2 ⟨λz i=>?_,U9 h2⟩;obtain rfl|i:=QK.1 i;{omega};{exact h1 z i}}
theorem bP7(s:LI)(id:Int):J (me s id)<=J s+1:=by
 induction s with
 |nil=>simp[me]
 |cons y r ih=>
  unfold me;split;{have:=Nt (l:=(y::r)) (id:=id);simp at this⊢;omega};{simp;omega}
theorem SM.del{w w':G}{h n:Nat}{id:Int}(m:lX D s)(q:s.Pairwise (·<·))(r:n<=2^21)(o:jM w' dG 27 unitElem h n (D.del (.U id))):SM w' h (lZ s id):=by
 refine SM.of o r (λk=>?_) (YM (Ns q));by_cases e:k=.U id;{subst e;rw[has_del_same];constructor;{intro u;cases u};{rintro⟨i,j,e⟩;simp at e;exact absurd e.C (Jl.1 j).2}};{rw[has_del_other e,m k];constructor;{rintro⟨i,j,rfl⟩;exact⟨i,Jl.2 ⟨j,λx=>e (by rw[x])⟩,rfl⟩};{rintro⟨i,j,rfl⟩;exact⟨i,(Jl.1 j).1,rfl⟩}}
theorem SM.put{w w':G}{h n:Nat}{id:Int}(m:lX D s)(u:IsMap D)(q:s.Pairwise (·<·))(r:n<=2^21)(o:jM w' dG 27 unitElem h n (D.put (.U id) d)):SM w' h (me s id):=by
 refine SM.of o r (λk=>?_) (YM (U9 q));rw[(lX.put m u id d) k];constructor;{rintro⟨i,j,rfl⟩;exact⟨i,QK.2 (by simp at j;exact j.C),rfl⟩};{rintro⟨i,j,rfl⟩;exact⟨i,by have:=QK.1 j;simp;exact this.C,rfl⟩}
theorem J7(m:O (PN w0 w g hh uu nd)){id:Int}(j:0<=id/\id<2^64){B:Bool}(q:O (nd.y.contains id=B)):dQ dG 340 #[Pz g,.U id] w (Rb (jO B) w):=by
 obtain⟨V,-,-,-,-,-,r,-⟩:=m.cells;let⟨D,n,o,x,hs,u⟩:=m.Ey;go_in;go_wp2_with(first
  |(at_lookup;refine wpList_lookup_own_unit _ rfl _ _ 166 rfl 27 _ oO underlying166 aS hh n D rfl o _ _ rfl (keyOf_int_mk underlying27 (FR j)) ?_;rw[(hs.has id).Z q])
  |go_in)
 go_ret;exact⟨rfl,cY⟩
theorem ev5(nd:au)(id:Int):yW nd id=(dD (nd.M=0)||(dD (J nd.y=1)&&nd.y.contains id)):=by
 unfold yW
 match nd.y with
 |[]=>simp
 |[y]=>
  congr 1;simp only[List.length_singleton,decide_true,yG,List.headD_cons];rw[Ry];simp;exact⟨λe=>(VM e).C,λe=>LG e.C⟩
 |y::z::r=>simp
theorem ev7(u:O (PN w0 w g hh uu nd)){id:Int}(r:0<=id/\id<2^64){B:Bool}(N:O (yW nd id=B)):dQ dG 331 #[Pz g,.U id] w (Rb (jO B) w):=by
 obtain⟨V,-,-,-,-,X,W,-⟩:=u.cells;let⟨D,n,o,Z,hs,M⟩:=u.Ey;have e:=ae N;rw[ev5]at e;have j:=o.len underlying166 3;rw[M]at j;by_cases hm:nd.M=0;{cases(by rw[<-e];simp[hm]:B);go_in;exact aV};{
 have Sx:(nd.M==0)=dF:=by simp[hm]
 by_cases m:J nd.y=1;{
 rw[m]at j;have x:nd.y.contains id=B:=by rw[<-e];simp[hm,m]
 go_in
 go_wp21
 refine cL (J7 u r x) λR az=>?_;exact aV};{
 let⟨E,y⟩:=bu (J nd.y);rw[y]at j m;cases(by rw[<-e,y];simp[hm,m]:B=dF);have S:((E:Int)==1)=dF:=by simp;omega
 go_in;exact aV}}
def KD(ns:List au):Prop:=∀(i j:Nat)(a c:au),ns[i]?=a->ns[j]?=c->ft a.A=ft c.A->i=j
theorem KD.set(h:KD ns)(q:ns[k]?=nd)(s:nd'.A=nd.A):KD (ns.set k nd'):=λi j a c m hc e=>by
 have key:∀(i:Nat)(a:au),(ns.set k nd')[i]?=Y a->∃o,ns[i]?=Y o/\o.A=a.A:=λi a m=>by rw[vG]at m;by_cases r:k=i;{subst r;rw[aK rfl,aK (bH.1 q).1]at m;cases m;exact⟨nd,q,s.C⟩};{rw[aJ r]at m;exact⟨a,m,rfl⟩}
 let⟨o,x,B⟩:=key i a m;let⟨D,u,y⟩:=key j c hc;exact h i j o D x u (by rw[B,y,e])
variable {D:SD}
theorem bZ9{SB NB HB UB:iN}(h:O (PS w0 w b bs bn D SB NB HB UB))(x:O (D.N[k]?=nd))(hS:O (tX D.E))(R:O (NT D.E nd))(hD:O (KD D.N)):dQ dG 342 #[Pz b,jJ (bg nd.A)] w λr w'=>PS w0 w' b bs bn (xD (ly D k 2) k) SB (NB.eraseIdx k) (HB.eraseIdx k) (UB.eraseIdx k)/\(Fr T3 w w'/\Kb (PL b bs bn SB NB HB UB) w w')/\∃v,r=dR v:=by
 go_in
 go_wp21
 refine(aP3 h nd x 2 hS R).h ?_;rintro r w1⟨E,hF,v,rfl⟩;replace hF:=ai hF;have X:(ly D k 2).N=D.N.set k {nd with X:=[]}:=by unfold ly;rw[ae x]
 have Pj:KD (ly D k 2).N:=X▸hD.set x rfl;obtain⟨-,-,-,-,-,h5,-⟩:=E.oU;obtain⟨M,n,o,-,-,-⟩:=E.sP;have S:keyOf dG 9 (jJ (bg nd.A))=(ft nd.A):=by rw[WideMaps.keyOf_string_mk underlying9 (by rw[DQ];have:=R.pl;unfold maxLen;omega),Xi]
 have s:=eG E (X▸uV x _) Pj;let⟨w',gx,ho,Md⟩:=o.drop uM underlying186 S 0;have iO:=ai o;go_wp2;go_end0;have N:=One.Hq s.1.be (bG ho Md).2.grown s.1.lo.2.2 (ownsMap_at iO);refine⟨?_,⟨hF.1.Z N.T,hF.2.Z (N.kb (by simp[PL])) hF.1.1⟩,_,rfl⟩;refine s.1.eJ7 s.2.1 N (λj z hz e=>s.2.2 j k z _ hz s.2.1 e) (λM' n' Z=>?_);obtain⟨w2,W,kU,-⟩:=Z.drop uM underlying186 S 0;rw[gx]at W;cases W;exact kU
theorem dz1{SB NB HB UB:iN}(h:O (PS w0 w b bs bn D SB NB HB UB))(i:O (D.N[k]?=nd))(m:O (tX D.E))(j:O (NT D.E nd))(o:O (KD D.N)):Cp 342 #[Pz b,jJ (bg nd.A)] w λr w'=>PS w0 w' b bs bn (xD (ly D k 2) k) SB (jX NB k) (jX HB k) (jX UB k)/\Fr T3 w w'/\∃v,r=dR v:=(bZ9 h i m j o).h λr w'⟨h1,h2,h3⟩=>⟨h1,h2.1,h3⟩
theorem PS.YY{SB NB HB UB:iN}(h:PS w0 w b bs bn D SB NB HB UB)(hi:D.N[i]?=nd)(hg:NB[i]?=g)(jq:HB[i]?=hh)(jv:UB[i]?=uu)(iO:One w0 w w' g)(V:dV)(vl:LI)(ow mo ep ge:Int)(hc:w'.heap[g]?=dO #[V,.U ow,.I mo,.map hh,.U ep,.U ge,.map uu] 193)(hV:AB w0 w' V vl):PS w0 w' b bs bn {D with N:=D.N.set i {nd with V:=vl,D:=ow,M:=mo,P:=ep,F:=ge}} SB NB HB UB:=by
 obtain⟨lo,⟨V0,q1,-⟩,q3,q4⟩:=h.rV i nd g hh uu hi hg jq jv;let⟨es,c,m3⟩:=q3.at;let⟨Mz,c',m4⟩:=q4.at;refine h.aO3 hi hg jq jv (.L rfl) iO rfl ⟨lo,⟨V,hc,hV⟩,q3.W iO (λe=>?_),q4.W iO (λe=>?_)⟩;{rw[e,q1]at m3;cases m3};{rw[e,q1]at m4;cases m4}
theorem One.Hr(u:Bw w0 w)(q:Below g w w')(o:w.heap[g]?=dO cs ty)(s:U (Q w0)<=g)(i:ty∈[148,193,188])(j:∀z,z<U (Q w)->z≠g->w'.heap[z]?=w.heap[z]?):One w0 w w' g:=by
 refine⟨q.h s,j,λr x m hc=>?_⟩;rw[o]at hc;simp at hc;rw[<-hc.2.1];exact i
theorem aC8{α:Type}(l:List α)(k:Nat)(a c:α):(l.set k a).set k c=l.set k c:=by simp
theorem ca1{SB NB HB UB:iN}(h:O (PS w0 w b bs bn D SB NB HB UB))(q:O (D.N[k]?=nd))(hS:O (tX D.E))(u:O (NT D.E nd)){id:Int}(hid:0<=id/\id<2^64)(OJ:O (nd.y.Pairwise (·<·)))(SL:J nd.y<=2^20)(OK:O (nd.y.contains id)):dQ dG 341 #[Pz b,jJ (bg nd.A),.U id] w λr w'=>PS w0 w' b bs bn (kV D k id) SB NB HB UB/\(Fr T3 w w'/\Kb (PL b bs bn SB NB HB UB) w w')/\∃v,r=dR v:=by
 let⟨g,hh,uu,hg,jq,jv,N,hlk⟩:=h.Zu q u.pl;obtain⟨V,hV,gc,-,n1,n2,n3,n4,n5,n6,nf⟩:=N.cells;obtain⟨-,-,-,-,-,h5,-⟩:=h.oU;let⟨M,nn,oM,hnn,sM,zM⟩:=N.Ey;let⟨x,gx,ho,Md⟩:=oM.drop oO underlying166 (keyOf_int_mk underlying27 (FR hid)) 0;have O1:=One.Hq h.be Md.grown N.lo.2.1 (ownsMap_at oM);have S1:=SM.del (w:=w) sM OJ hnn ho;have P1:=h.Ey q hg jq jv O1 S1;have kh:=uV q {nd with y:=lZ nd.y id}
 let⟨V1,xY,gc1,m0,m1,m2,m3,m4,m5,m6,mf⟩:=(P1.rV k _ g hh uu kh hg jq jv).cells;obtain⟨M1,nn1,X,-,-,W⟩:=S1;have m:=X.len underlying166 3;rw[W]at m;let⟨nl,iq⟩:=cg (J (lZ nd.y id));rw[ae iq]at m;have S:=bG P1 kh;let⟨F1,K1⟩:=aQ O1.T (O1.kb (L:=PL b bs bn SB NB HB UB) (by simp[PL,bq jq]));have y:=eG hg jq jv;have o:=bG gc1 xY;go_in;by_cases h0:nl=0;{
 subst h0;have iL:lZ nd.y id=[]:=uJ.1 iq;let⟨Z,E⟩:=aF (jS (jS (jS x (Ad g 2) (.I 0)) (Ad g 4) (.U 0)) (Ad g 5) (.U 0));have bZ:Below g x Z:=by rw[E];exact((db.setCell (p:=(Ad g 2)) aU _).setCell (p:=(Ad g 4)) aU _).setCell (p:=(Ad g 5)) aU _
 have kZ:∀z,z<U (Q x)->z≠g->Z.heap[z]?=x.heap[z]?:=λz _ aP=>by rw[E];iterate 3 rw[gh _ _ _ _ (show z≠_ from aP)]
 have R:=One.Hr S.1.be bZ o.1 N.lo.1 al kZ;have PZ:=S.1.YY S.2 y.1 y.2.1 y.2.2 R V1 nd.V nd.D 0 0 0 (by rw[E];simp[World.setCell,Ac,o.1]) (o.2.T R.T);simp only[aC8,iL]at PZ;let⟨FZ,KZ⟩:=aQ (F1.Z R.T) (K1.Z (R.kb (by simp[PL,bq y.1])) F1.1)
 go_wp21
 rw[<-E];refine(aP3 PZ (k:=k) {nd with y:=[],M:=0,P:=0,F:=0} (uV q {nd with y:=[],M:=0,P:=0,F:=0}) 3 hS (ai ⟨u.Xg,u.pl,u.Nq,u.Nu,u.U8⟩)).h ?_;rintro r w5⟨Ti,j,v5,rfl⟩;replace j:=ai j;go_wp2;go_end0;refine⟨?_,⟨FZ.Z j.1,KZ.Z j.2 FZ.1⟩,_,rfl⟩;unfold kV;rw[ae q];simp only[ae OK,qR,iL];exact Ti};{have WM:=uX 0 nl;go_wp2;refine cX (BM aY _ _ _) rfl ⟨?_,⟨F1,K1⟩,_,rfl⟩;have aP:lZ nd.y id≠[]:=λe=>h0 (by rw[<-ae iq,e];rfl);unfold kV;rw[ae q];simp only[ae OK,qR,aJ aP];exact S.1}
theorem dz2{SB NB HB UB:iN}(h:O (PS w0 w b bs bn D SB NB HB UB))(j:O (D.N[k]?=nd))(o:O (tX D.E))(m:O (NT D.E nd)){id:Int}(i:0<=id/\id<2^64)(u:O (nd.y.Pairwise (·<·)))(q:J nd.y<=2^20)(s:O (nd.y.contains id)):Cp 341 #[Pz b,jJ (bg nd.A),.U id] w λr w'=>PS w0 w' b bs bn (kV D k id) SB NB HB UB/\Fr T3 w w'/\∃v,r=dR v:=(ca1 h j o m i u q s).h λr w'⟨h1,h2,h3⟩=>⟨h1,h2.1,h3⟩
theorem Tryz.infoStr:(Tryz.prog.info? 9).map (λi=>(i.zero,i.size,i.bytes))=Y (Y (jJ ByteArray.empty),1,16):=by kernel_rfl
def yK(ns:List au)(P:LI):List LI:=(ns.filter λi=>dD (iV i.A=P)).map (·.A)
theorem cm3(ns:List au)(P:LI):um ns P=(yK ns P).map wW:=by
 unfold um yK;rw[uI];rfl
theorem dR7(h:ns[k]?=nd):yK (jT (k+1) ns) P=if iV nd.A=P then yK (jT k ns) P++[nd.A]else yK (jT k ns) P:=by
 rw[rD,h,yK,av1,uk];by_cases e:iV nd.A=P<;>simp[yK,e]
theorem cm2:J (yK ns P)<=J ns:=by
 rw[yK,iC];exact VO _ _
def TD(_:G)(l:LI)(c:List dV):Prop:=c=[jJ (bg l)]
theorem df6{rest:List Oper}{iZ:iE}(ik:o.guard=dN){s x:Operand}(ho:o.op=.call {callee:=.builtin .append,args:=#[s,x],argTypes:=#[196,196]})(ek:Le ls k)(hs:a.eval s=v)(dw:RT TD 9 1 B w v ls)(hx:a.eval x=.T g 1 1)(sV:I w (Ad g 0)=Y (jJ (bg l)))(hk:k<2^22)(hB:B<=U (Q w))(h:∀p' c' w',RT TD 9 1 B w' (.S p' (k+1) c') (ls++[l])->jG w w' (jB v)->wpList dG ops iZ rest (a.put o.dst (.S p' (k+1) c')) w'):wpList dG ops iZ (o::rest) a w:=by
 let⟨i,hi,jk,fI,gv⟩:=mJ Tryz.infoStr;obtain⟨rs,h1,h2,h3,h4⟩:=dw;rw[ae ek]at h3;refine FO ik 196 ho i 1 Tryz.underlying196 hi jk fI gv rfl bf v hs h3 g 1 1 [jJ (bg l)] hx rfl (λj u hu=>by
  have e:j=0:=by have:=(bH.1 hu).1;simpa using this
  subst e;simp at hu;subst hu;exact sV) (λu hu=>by simp at hu;rw[hu];rfl) kW af hB ?_
 intro v' w' gF hg _;have sn:RT TD 9 1 B w' v' (ls++[l]):=RT.snoc h1 h2 h4 (λ_ _ h=>h) rfl rfl (ae ek▸gF);obtain⟨p',c',rfl,-⟩:=RT.form sn;rw[fe,ae ek]at sn⊢;exact h p' c' w' sn hg
theorem RT.cP1(h:RT TD 9 1 B w v ls)(i:Bw w w'):RT TD 9 1 B w' v ls:=h.W (λ_ _ h=>h) (λb j=>i.block b (h.lt b j).2)
theorem cM1{SB NB HB UB:iN}(h:O (PS w0 w b bs bn D SB NB HB UB))(sU:O ((D.N.map λnd=>kK nd.A).Pairwise (·<·)))(dr:O (∀nd∈D.N,aD nd.A/\J nd.A<=2^20))(bP:O (aD P)){L:List LI}(eL:O (yK D.N P=L)):dQ dG 351 #[Pz b,jJ (bg P)] w λr w'=>∃p c,r=dR (.S p (J L) c)/\RT TD 9 1 (U (Q w)) w' (.S p (J L) c) L/\Bw w w':=by
 obtain⟨-,-,-,-,-,h5,-⟩:=h.oU;let⟨M,nn,Z,hnn,mM,zM⟩:=h.sP;have WE:=h.Ys.kM;go_enter Tryz.func351,Tryz.ntmps351
 go_wp21
 refine(T.Yv bn nn M w Z (aM Z.size_le)).h ?_;rintro r w1⟨kv,ks,rfl,AI,xF,X⟩;cases aX2 WE sU mM AI;obtain⟨p,c,rfl,SE⟩:=aU9 xF;let⟨m,W⟩:=cg (J D.N);have hm:m<=2^20:=by have:=Z.size_le;rw[zM,ae W]at this;omega
 rw[ae W];let⟨HK,B1⟩:=aQ SE X;go_wp2
 go_loopw[5,14](λov iv wr=>∃(j:Nat)(N:List LI),j<=m/\iv=.I j/\O (yK (jT j D.N) P=N)/\O (RT TD 9 1 (U (Q w1)) wr ov N)/\O (Bw w1 wr)) (λ_ iv _=>m-(jN (intOf iv)))
 exact⟨0,[],de _,rfl,(ai (by simp[yK])),RT.nil _ _ _ _ _,bD _ _⟩;{
 obtain⟨j,N,hj,rfl,V,E,R⟩:=hrel;obtain⟨po,co,rfl,-⟩:=RT.form E;have zr:=R.size;have Mh:J N<=j:=by have h1:=cm2 (ns:=jT j D.N) (P:=P);have h2:=Rt j D.N;rw[ae V]at h1;omega
 by_cases aH:j<m;{
 have dm:=cM j m;obtain⟨nd,hx⟩:∃nd,D.N[j]?=Y nd:=⟨_,bN (ae W▸aH)⟩;obtain⟨gk,rfl,Is⟩:∃gk,p=(Ad gk 0)/\I wr (Ad gk j)=Y (jJ (bg nd.A)):=by obtain h0|⟨gk,rfl,h1,h2,h3⟩:=ae HK;{rw[h0]at hx;simp at hx};{exact⟨gk,rfl,aq (by have:=h3 j nd hx;rwa [nY]at this) R⟩}
 let⟨X,aA⟩:=ae dr nd (bq hx);have kJ:=ai (dR7 (P:=P) hx);let⟨nP,eN⟩:=cg (J nd.A);rw[ae eN]at aA;have y:=Qa (Vs X) bP
 go_wp21
 refine(aW0 eN X aA).h ?_;rintro r w2⟨rfl,rfl⟩;by_cases hq:iV nd.A=P;{
 have mQ:dD (iV nd.A=P):=by simp[hq]
 rw[mQ]at y;go_wp2_with(at_builtin;refine df6 rfl rfl (v:=.S po (J N) co) (l:=nd.A) rfl rfl (RT.cP1 E cY) (g:=U (Q w2)) rfl al af bL ?_);intro p' c' w5 T5 mY;go_wp2;go_roundw;exact⟨j+1,_,af,by go_num,(by have:=ae kJ;rwa [aK hq,ae V]at this:yK (jT (j+1) D.N) P=N++[nd.A]),T5,(aj (ae R) cY).grown mY bL (λb' e=>(E.lt b' e).1)⟩;exact dy};{
 have mQ:dD (iV nd.A=P)=dF:=by simp[hq]
 rw[mQ]at y;go_wp2;go_roundw;exact⟨j+1,N,af,by go_num,(by have:=ae kJ;rwa [aJ hq,ae V]at this:yK (jT (j+1) D.N) P=N),E,R⟩;exact dy}};{have dm:=ga j m;have e1:=ae V;rw[nZ (by rw[ae W];omega),ae eL]at e1;subst e1;go_wp2;go_ret;exact⟨_,_,rfl,RT.h E B1.size,aj B1 R⟩}}
variable {g:Int}{q:OA}{d:Nat}
theorem dF8(en:Le ss n)(em:Le ns m)(hS:O (fh B w (.S p n c) ss Qs))(hN:O (ld B w (.S q m d) ns))(hB:B<=U w.heap)(hn:Mg n)(hx:0<=x/\x<=2^62)(ht:0<=t/\t<=1000000):dQ dG 102 #[cO e g x t (.S p n c) (.S q m d)] w λr w'=>QR B w w' r (yE ⟨e,g,x,t,ss,ns⟩).1 (yE ⟨e,g,x,t,ss,ns⟩).2:=by
 let⟨W0,cT,b0,z0,C0⟩:=yj w (.U e) (.U g) (.U x) (.I t) (.S p n c) (.S q m d);let⟨W1,fT,b1,z1,C1⟩:=Cr W0;let⟨W2,fW,b2,z2,C2⟩:=yi W1 (.I 0) (.U 0) (.U 0) (.U 0) (.I 0) aN aN aN;rw[z0]at C1 z1;rw[z1]at C2 z2;have M:=eG ((C0.H b1).H b2) (C1.H b2) C2;have y:=ai (aj (aj b0 b1) b2);have W:=bG (hS.T (cG y)) (hN.T (cG y));go_in;by_cases Mv:50<=n;{
 have bt3:dD ((50:Int)<=(n:Int)):=by simp;omega
 have hI:yE ⟨e,g,x,t,ss,ns⟩=(⟨e,g,x,t,ss,ns⟩,lD 11):=by unfold yE;rw[aK (by simpa[ae en]using Mv)]
 rw[hI]
 go_wp21
 rw[<-cT,<-fT,<-fW];refine aU4 1 (U w.heap) aS rfl (λ_ _=>rfl) (λ_ _=>rfl) (λ_ _=>rfl) (λ_ _=>rfl) M.1 M.2.1 M.2.2 af (B:=U w.heap) af af ?_;intro w' az nj f1 tW;have HQ:=ai (QR.num (e:=e) (g:=g) (x:=x) (t:=t) en em W.1 W.2 (Fr.H y) (y.h hB) f1 tW hB 11 0 0 0 0);let⟨q0,q1,q2,q3,q4,q5,qf⟩:=az.cells;let⟨r0,r1,r2,r3,r4,r5,r6,r7,rf⟩:=nj.cells;simp only[Act.put,xa,xb,xc];go_wp2;exact cX (v:=dT #[cO e g x t (.S p n c) (.S q m d),ij 11 0 0 0 0 aN aN aN]) (by simp[results,results102,go_sem,q0,q1,q2,q3,q4,q5,r0,r1,r2,r3,r4,r5,r6,r7]) rfl HQ};{
 have bt3:dD ((50:Int)<=(n:Int))=dF:=by simp;omega
 by_cases hx2:4611686018427387904<=x;{
 have hI:yE ⟨e,g,x,t,ss,ns⟩=(⟨e,g,x,t,ss,ns⟩,lD 12):=by unfold yE;rw[aJ (by simpa[ae en]using Mv),aK (show 2^62<=x by omega)]
 rw[hI]
 go_wp21
 rw[<-cT,<-fT,<-fW];refine aU4 1 (U w.heap) aS rfl (λ_ _=>rfl) (λ_ _=>rfl) (λ_ _=>rfl) (λ_ _=>rfl) M.1 M.2.1 M.2.2 af (B:=U w.heap) af af ?_;intro w' az nj f1 tW;have HQ:=ai (QR.num (e:=e) (g:=g) (x:=x) (t:=t) en em W.1 W.2 (Fr.H y) (y.h hB) f1 tW hB 12 0 0 0 0);let⟨q0,q1,q2,q3,q4,q5,qf⟩:=az.cells;let⟨r0,r1,r2,r3,r4,r5,r6,r7,rf⟩:=nj.cells;simp only[Act.put,xa,xb,xc];go_wp2;exact cX (v:=dT #[cO e g x t (.S p n c) (.S q m d),ij 12 0 0 0 0 aN aN aN]) (by simp[results,results102,go_sem,q0,q1,q2,q3,q4,q5,r0,r1,r2,r3,r4,r5,r6,r7]) rfl HQ};{
 have hI:yE ⟨e,g,x,t,ss,ns⟩=(⟨e,g,x+1,t,ss++[(x+1,t+10,[])],ns⟩,⟨0,x+1,0,0,t+10,[],[],[]⟩):=by unfold yE;rw[aJ (by simpa[ae en]using Mv),aJ (show ¬2^62<=x by omega)];rfl
 rw[hI];have wx:jY jU (x+1)=x+1:=IntWalk.u64_in _ af;have wt:jY jV (t+10)=t+10:=nW _ af;let⟨V0,hV0,b0,z0,C0⟩:=yj w (.U e) (.U g) (.U (x+1)) (.I t) (.S p n c) (.S q m d);let⟨V1,xY,b1,z1,C1⟩:=Cr V0;let⟨V2,hV2,b2,z2,C2⟩:=yi V1 (.I 0) (.U 0) (.U 0) (.U 0) (.I 0) aN aN aN;obtain⟨V3,hV3,b3,z3,C3,-⟩:=cR V2 #[.U (x+1),.I (t+10),ay] 148;rw[z0]at C1 z1;rw[z1]at C2 z2;rw[z2]at C3 z3;have M:=eG (((C0.H b1).H b2).H b3) ((C1.H b2).H b3) (C2.H b3);have y:=ai (aj (aj (aj b0 b1) b2) b3);have W:=bG (hS.T (cG y)) (hN.T (cG y));have lz:O (J (ss.zip Qs)=n):=ai (by rw[VN,hS.len,ae en];simp);go_wp2_with(at_builtin;rw[<-hV0,<-xY,<-hV2,<-hV3];refine bP3 rfl rfl (v:=.S p n c) (z:=((x+1,t+10,[]),aN)) lz rfl W.1.row (U w.heap+1+1+1) rfl rfl C3.1 af af ?_);intro p' c' w9 hr9 qm V;rw[<-hV0,<-xY,<-hV2,<-hV3]at qm V;have B9:Below B w w9:=(y.h hB).grown qm af (λb hb=>(ae (λb hb=>hS.row.lt b hb) b hb).1);have F9:Fr [125,148,149] w w9:=(Fr.H y).Z (V.sub al);have X0:=M.1.T V;have X2:=M.2.2.T V;let⟨k0,k1,k2,k3,k4,k5,kf⟩:=X0.cells;let⟨fA,bA,gA⟩:=X0.cF3 (j:=4) F9 B9 aU hB (.S p' (n+1) c');let⟨Z,hZ⟩:=aF (jS w9 (Aw w 4) (.S p' (n+1) c'));have X1':=(M.2.1.T V).Yy (b:=U w.heap) (j:=4) (u:=.S p' (n+1) c') af;rw[<-hZ]at fA bA gA X1';have X2':=X2.T gA;have HZ:=eG (hZ▸X0.1.ew 4 al _) X1' X2';have N:=gJ ((W.1.ds5 V _ _ hr9).T gA) (du.T (du.T W.2 V) gA) fA bA;have zZ:U w.heap+3<U Z.heap+1:=by have:=X2'.1;have:=fA.1;have h9:=V.1;have:=gA.1;omega
 go_wp21
 rw[<-hZ];let⟨vA,br⟩:=aF Z.drew;have bM:=kH br;have E:=eG (HZ.1.H af bM) (HZ.2.1.H bM) (HZ.2.2.H bM);have BA:=ai bM;refine fw (λw'=>I w' (Aw w 0)=dU e/\I w' (Aw w 1)=dU g/\I w' (Aw w 2)=dU (x+1)/\I w' (Aw w 3)=dI t/\I w' (Aw w 4)=dS p' (n+1) c'/\I w' (Aw w 5)=dS q m d) (by rw[<-br];exact⟨E.1.1 0 _ rfl,E.1.1 1 _ rfl,E.1.1 2 _ rfl,E.1.1 3 _ rfl,E.1.1 4 _ rfl,E.1.1 5 _ rfl⟩) λhS=>?_;rw[<-br]at hS⊢;clear br bM;refine iy 0 1 2 3 hS ?_;refine tn 4 hS ?_;refine fy 5 λKK hK=>?_;let⟨k0,k1,k2,k3,k4,k5,kf⟩:=E.2.1.cells;go_simp;let⟨X,hX⟩:=aF (gL vA (U w.heap+1) (.U e) (.U g) (.U (x+1)) (.I t) (.S p' (n+1) c') (.S q m d));have bX:Below (U w.heap+1) vA X:=hX▸vE _ _ _ _ _ _ _;have pK:=E.2.1.put (.U e) (.U g) (.U (x+1)) (.I t) (.S p' (n+1) c') (.S q m d);have R:=as3 E.1 (b:=U w.heap+1) af (v0:=.U e) (v1:=.U g) (v2:=.U (x+1)) (v3:=.I t) (v4:=.S p' (n+1) c') (v5:=.S q m d);have fX:Fr [44] vA X:=by obtain⟨-,cur,ht⟩:=E.2.1;rw[hX];exact xB ht
 rw[<-hX]at pK R;unfold gL at hX;rw[<-hX];have HX:=nK pK R (E.2.2.T fX) fX bX;refine bS hK ⟨R.1 0 _ rfl,R.1 1 _ rfl,R.1 2 _ rfl,R.1 3 _ rfl,R.1 4 _ rfl,R.1 5 _ rfl⟩ λhS=>?_;clear hK KK hX k0 k1 k2 k3 k4 k5 kf pK R fX bX;refine fy 6 λKK hK=>?_;let⟨k0,k1,k2,k3,k4,k5,k6,k7,kf⟩:=HX.2.2.1.cells;go_simp;let⟨GZ,fY⟩:=HX.2.2.1.put (.I 0) (.U (x+1)) (.U 0) (.U 0) (.I (t+10)) aN aN aN;have bY:=rT (w:=X) (b:=U w.heap+1+1) (v0:=.I 0) (v1:=.U (x+1)) (v2:=.U 0) (v3:=.U 0) (v4:=.I (t+10)) (v5:=aN) (v6:=aN) (v7:=aN);let⟨iY,hY⟩:=aF (nH X (U w.heap+1+1) (.I 0) (.U (x+1)) (.U 0) (.U 0) (.I (t+10)) aN aN aN);rw[<-hY]at GZ fY bY;unfold nH gL at hY;rw[<-hY];have CY:=HX.2.1.dt (bY.block _ af);have BY:=gJ (HX.1.T fY) GZ ((Fr.H (T:=[44,50]) BA).Z ((HX.2.2.2.1.sub al).Z (fY.sub al))) ((BA.h af).Z ((HX.2.2.2.2.h (VJ _)).Z (bY.h af)));refine bS hK ⟨CY.1 0 _ rfl,CY.1 1 _ rfl,CY.1 2 _ rfl,CY.1 3 _ rfl,CY.1 4 _ rfl,CY.1 5 _ rfl⟩ λhS=>?_;clear hK KK hY k0 k1 k2 k3 k4 k5 k6 k7 kf GZ fY bY CY;refine fQ ?_;clear hS;let⟨az,nj,f1,tW⟩:=ae BY;have HQ:=ai (QR.num (e:=e) (g:=g) (x:=x+1) (t:=t) (ai (by rw[fe,ae en];rfl)) em N.1 N.2.1 N.2.2.1 N.2.2.2 f1 tW hB 0 (x+1) 0 0 (t+10));clear f1 tW;let⟨q0,q1,q2,q3,q4,q5,qf⟩:=az.cells;let⟨r0,r1,r2,r3,r4,r5,r6,r7,rf⟩:=nj.cells;go_wp2;exact cX (v:=dT #[cO e g (x+1) t (.S p' (n+1) c') (.S q m d),ij 0 (x+1) 0 0 (t+10) aN aN aN]) (by simp[results,results102,go_sem,q0,q1,q2,q3,q4,q5,r0,r1,r2,r3,r4,r5,r6,r7]) rfl HQ}}
def DK(K S F:Int)(np nv:Nat)(E iG:Int):Bool:=if 1<=K/\K<=13 then qt (jN K) S F np nv E iG else dF
def Dr(K:Int):Bool:=!(K==1)&&(!(K==6)&&!(K==13))
def Gs(D:SD)(i:Nat):SD×RP:=match D.E[i]? with
 |none=>(D,iS)
 |some s=>if s.2.1<D.t+10 then({D with E:=D.E.set i (s.1,D.t+10,s.2.2)},{iS with n:=D.t+10})else(D,{iS with n:=s.2.1})
def YN(D:SD)(i:Nat):SD×RP:=match D.E[i]? with
 |none=>(D,iS)
 |some s=>({D with E:=D.E.set i (s.1,s.2.1,[])},{iS with kF:=s.2.2})
def Aa(ns:List au)(P:LI):Int:=match ns.findIdx? (λj=>dD (j.A=P))with
 |some i=>i
 |none=>-1
def BG(K:Int)(P:LI):Bool:=dD (K=13)&&dD (P=[47])
def zO(D:SD)(K S F E iG:Int)(P V:LI):SD×RP:=
 if(!BG K P&&!vp P)then(D,lD 4)
 else if K=4 then Fo D P V S F
 else if K=10 then(D,{iS with n:=PX D.N P S E iG})
 else if(!BG K P&&dD (Aa D.N P<0))then(D,lD 5)
 else if K=13 then(D,{iS with iB:=um D.N P})
 else BI D (jN (Aa D.N P)) K S F V
def kG(D:SD)(K S F E iG:Int)(P V:LI):SD×RP:=
 if DK K S F (J P) (J V) E iG=dF then(D,lD 2)
 else if K=1 then yE D
 else if(Dr K&&dD (mj D.E S<0))then(D,lD 3)
 else if K=2 then Gs D (jN (mj D.E S))
 else if K=3 then(yh D S,iS)
 else if K=12 then YN D (jN (mj D.E S))
 else zO D K S F E iG P V
def PD(ns:List au):Prop:=∀(i j:Nat)(a b:au),ns[i]?=a->ns[j]?=b->a.A=b.A->i=j
structure WF(D:SD):Prop where
 g:0<=D.g/\D.g<=2^62
 x:0<=D.x/\D.x<=2^62
 t:0<=D.t/\D.t<=1000000
 nb:NB D.N
 pb:PPB D.N
 vl:∀nd∈D.N,J nd.V<=2^20
 ex:∀nd∈D.N,nd.M=1->nd.y≠[]
 pd:PD D.N
theorem ew1{E:Int}{B:Bool}(i:O (DK K S F np nv E iG=B)):Cp 101 #[nI K S (.S pp np cp) F (.S pq nv cv) E iG] w (Rb (jO B) w):=by
 by_cases h:1<=K/\K<=13;{obtain⟨k,rfl⟩:∃k:Nat,K=(k:Int):=⟨jN K,af⟩;have e:=ae i;rw[DK,aK h,rY]at e;exact cD6 af af (ai e)};{have e:=ae i;rw[DK,aJ h]at e;subst e;exact cD5 af}
theorem dY4:dQ dG 104 #[.I K] w λr w'=>r=dR (jO (Dr K))/\w'=w:=by
 by_cases h1:K=1;{subst h1;go_in;exact aV};{
 by_cases i:K=6;{subst i;go_in;exact aV};{
 by_cases j:K=13;{subst j;go_in;exact aV};{
 have e:Dr K:=by simp[Dr,h1,i,j]
 rw[e];have s:(K != 1):=by simp[h1]
 have o:(K != 6):=by simp[i]
 have m:(K != 13):=by simp[j]
 go_in;exact aV}}}
theorem dJ8(j:PD ns)(h:ns[k]?=Y nd)(m:kP ns P=Y nd):Aa ns P=k:=by
 have e:nd.A=P:=by have:=Zi m;simpa using this
 have:ns.findIdx? (λnd=>dD (nd.A=P))=k:=by
  rw[Oe];let⟨q,o⟩:=bH.1 h;refine⟨q,by rw[o];simp[e],λi s hc=>?_⟩;have r:ns[i].A=P:=by simpa using hc
  have:=j i k _ _ (bN af) h (r.Z e.C);omega
 rw[Aa,this]
theorem cg6(m:kP ns P=dN):Aa ns P=-1:=by
 have:ns.findIdx? (λi=>dD (i.A=P))=dN:=by rw[av0];intro x j;have:=VP.1 m x j;simpa using this
 rw[Aa,this]
theorem dJ9(h:¬Aa ns P<0):∃(k:Nat)(nd:au),Aa ns P=k/\ns[k]?=Y nd:=by
 unfold Aa at h⊢;cases hf:ns.findIdx? (λnd=>dD (nd.A=P))with
 |none=>rw[hf]at h;simp at h
 |some k=>
  obtain⟨i,-⟩:=Oe.1 hf;exact⟨k,_,rfl,bN i⟩
theorem aU1(h:¬mj ss S<0):∃(k:Nat)(s:aB),mj ss S=k/\ss[k]?=Y s:=by
 unfold mj at h⊢;cases hf:ss.findIdx? (λs=>s.1==S)with
 |none=>rw[hf]at h;simp at h
 |some k=>
  obtain⟨i,-⟩:=Oe.1 hf;exact⟨k,_,rfl,bN i⟩
theorem dI5{S:dV}(en:Le ns n)(s:Le l m)(h:iw w (.S p n c) ns)(o:Rd w (.S q m d) l)(j:Mg n)(hm:m<=2^21)(u:O (aD l/\∀nd∈ns,aD nd.A))(i:PD ns):Cp 109 #[cO e g x t S (.S p n c),.S q m d] w (Rb (.I (Aa ns l)) w):=by
 refine(aw3 en s h o j hm u).h ?_;rintro r w'⟨⟨k,nd,rfl,-,h1,h2⟩|⟨rfl,h1⟩,hb⟩;{exact⟨by rw[dJ8 i h1 h2],hb⟩};{exact⟨by rw[cg6 h1],hb⟩}
variable {s:aB}
theorem dS2(h:ss[i]?=s)(j:(if s.2.1<t+10 then t+10 else s.2.1)=dd):Gs ⟨e,g,x,t,ss,ns⟩ i=(⟨e,g,x,t,ss.set i (s.1,dd,s.2.2),ns⟩,⟨0,0,0,0,dd,[],[],[]⟩):=by
 unfold Gs;simp only[h];by_cases m:s.2.1<t+10;{rw[aK m]at j⊢;rw[<-j];rfl};{rw[aJ m]at j⊢;rw[<-j,Js h];rfl}
theorem bR8:(ly D k kd).e=D.e/\(ly D k kd).g=D.g/\(ly D k kd).x=D.x/\(ly D k kd).t=D.t:=by
 unfold ly;split<;>exact⟨rfl,rfl,rfl,rfl⟩
theorem eI2{id:Int}:(kV D k id).e=D.e/\(kV D k id).g=D.g/\(kV D k id).x=D.x/\(kV D k id).t=D.t:=by
 unfold kV;split;{exact⟨rfl,rfl,rfl,rfl⟩};{split;{split;{exact bR8};{exact⟨rfl,rfl,rfl,rfl⟩}};{exact⟨rfl,rfl,rfl,rfl⟩}}
theorem bA8(id:Int):∀(f k:Nat)(D:SD),(ng id f k D).e=D.e/\(ng id f k D).g=D.g/\(ng id f k D).x=D.x/\(ng id f k D).t=D.t
 |0,k,D=>by unfold ng;exact⟨rfl,rfl,rfl,rfl⟩
 |f+1,k,D=>by have j:=eI2 (D:=D) (k:=k) (id:=id);unfold ng;split;{exact⟨rfl,rfl,rfl,rfl⟩};{split;{have i:=bA8 id f k (xD (ly (kV D k id) k 2) k);have m:=bR8 (D:=kV D k id) (k:=k) (kd:=2);exact⟨i.1.Z (m.1.Z j.1),i.2.1.Z (m.2.1.Z j.2.1),i.2.2.1.Z (m.2.2.1.Z j.2.2.1),i.2.2.2.Z (m.2.2.2.Z j.2.2.2)⟩};{have i:=bA8 id f (k+1) (kV D k id);exact⟨i.1.Z j.1,i.2.1.Z j.2.1,i.2.2.1.Z j.2.2.1,i.2.2.2.Z j.2.2.2⟩}}
theorem eO0{id:Int}:(yh D id).e=D.e/\(yh D id).g=D.g/\(yh D id).x=D.x/\(yh D id).t=D.t:=bA8 id _ _ _
def sC(k:Int):dV:=if k=0 then .nilIface else .iface 107 (jP #[.I k])
theorem QL(i:v=jP #[]):dQ dG 337 #[v,pt] w (Rb (sC 0) w):=by
 subst i;go_in;exact aV
def Ln(D:SD):Int:=if 50<=J D.E then 11 else if 2^62<=D.x then 12 else 0
theorem dG0{SB NB HB UB:iN}(h:O (PS w0 w b bs bn D SB NB HB UB))(S:O (Ln D=C)):dQ dG 336 #[jP #[],Pz b] w (Rb (sC C) w):=by
 obtain⟨-,-,R,-,N,-,-⟩:=h.oU;let⟨M,n,o,Z,m,B⟩:=h.vY;have X:=λ(j:Obj)=>aq R ((bD (U (Q w)) w).alloc aU j);have W:=λ(j:Obj)=>aq N ((bD (U (Q w)) w).alloc aU j);have i:=λ(j:Obj)=>(o.alloc j).len underlying185 3;rw[B]at i;have e:=ae S;unfold Ln at e;let⟨s,y⟩:=bu (J D.E);rw[y]at i e;clear o m B y;by_cases E:50<=s;{have u:=gS 50 s;rw[aK E]at e;subst e;go_in;exact aV};{
 have u:¬(50:Int)<=(s:Int):=af;rw[aJ E]at e;by_cases r:2^62<=D.x;{
 have V:dD (2^62<=D.x):=by simpa using r
 rw[aK r]at e;subst e;go_in;exact aV};{
 have V:dD (2^62<=D.x)=dF:=by simpa using r
 rw[aJ r]at e;subst e;go_in;exact aV}}
theorem PS.rest{SB NB HB UB:iN}(h:PS w0 w b bs bn D SB NB HB UB)(hb:Below (U (Q w0)) w w')(hk:∀y,y<U (Q w)->y≠z->w'.heap[y]?=w.heap[y]?)(E:∃m,w.heap[z]?=dO cs ty m)(ht:ty∉[148,193,188,5,125]):PS w0 w' b bs bn D SB NB HB UB:=by
 obtain⟨mz,E⟩:=E;simp only[gD,Rn,JM,JC]at ht;obtain⟨t1,t2,t3,t4,t5⟩:=ht;have hf:Fr [ty] w w':=⟨hb.size,λy cur N m' hn i=>by by_cases e:y=z;{subst e;rw[E]at i;simp at i;exact absurd (by rw[i.2.1];simp) hn};{exact(hk y (uS i) e).Z i}⟩
 have Z:∀{y:Nat}{S:iA}{N:TypeId},w.heap[y]?=dO S N->ty≠N->w'.heap[y]?=dO S N:=λ{y S N}i V9=>(hk y (gQ i) (λe=>by rw[e,E]at i;simp at i;exact V9 i.2.1)).Z i
 have X:∀{k:TypeId}{R:dV->Option (DataW Unit×List MemPlace)}{y n:Nat}{M:DataW Unit},jM w dG k R y n M->jM w' dG k R y n M:=λo=>aW5 o (λes c x=>(hk _ (gQ x) (λe=>by rw[e,E]at x;cases x)).Z x)
 have sm:∀{y:Nat}{s:LI},SM w y s->SM w' y s:=λ⟨M,n,o,r⟩=>⟨M,n,X o,r⟩;refine⟨h.be.Z hb,Z h.hd t3,h.vZ,?_,λj s1 g1 fO fo=>?_,h.snd,h.xJ,h.hlen,h.zI,?_,λj nd gb x uu fO fo h1 h2=>?_,h.Hy,h.lo,h.xt⟩;{let⟨M,n,o,r⟩:=h.vY;exact⟨M,n,X o,r⟩};{let⟨W,u,q1,q2⟩:=h.vy j s1 g1 fO fo;exact⟨W,u,Z q1 t1,q2.T hb hf (by simp;exact⟨λe=>t4 e.C,λe=>t5 e.C⟩)⟩};{let⟨M,n,o,r⟩:=h.sP;exact⟨M,n,X o,r⟩};{let⟨W,⟨V,q1,q2⟩,q3,q4⟩:=h.rV j nd gb x uu fO fo h1 h2;exact⟨W,⟨V,Z q1 t2,(λq=>q.T hf (by simp;exactλe=>t4 e.C)) q2⟩,sm q3,sm q4⟩}
theorem ey3{d:Int}(h1:I w (Ad g1 1)=dI t)(hf:∀o,jF w (Ad g1 o)=dF):dQ dG 330 #[Pz g1,.I d] w λr w'=>w'=jS w (Ad g1 1) (.I (max t d))/\∃v,r=dR v:=by
 go_in;go_wp2;go_end0;exact⟨rfl,_,rfl⟩
theorem PS.xC{SB NB HB UB:iN}(h:PS w0 w b bs bn D SB NB HB UB)(r:D.E[i]?=s)(hr:0<=s.1/\s.1<2^64):∃g u,SB[i]?=Y g/\g<U (Q w)/\U (Q w0)<=g/\∀W,Bw w W->I W (Ad b 3)=dI D.t/\I W (Ad b 4)=Y (.map bs)/\(Instr.lookup 185 (.map bs) (.U s.1) dF).run dG W=.ok (Pz g) W/\W.heap[g]?=dO #[.U s.1,.I s.2.1,u] 148/\I W (Ad g 1)=dI s.2.1/\∀o,jF W (Ad g o)=dF:=by
 obtain⟨g,x,S,-⟩:=h.look r hr;obtain⟨V,u,j,X⟩:=S;refine⟨g,u,x,gQ j,V,λW y=>?_⟩;have B:=h.H y;obtain⟨-,-,-,M,E,-⟩:=B.oU;let⟨Z,q,R,N⟩:=B.look r hr;rw[x]at q;cases q;have m:W.heap[g]?=dO #[.U s.1,.I s.2.1,u] 148:=(y.block g (gQ j)).Z j;exact⟨M,E,N,m,cI m 1,λo=>by simp[World.frozen?,m]⟩
variable {l:List Oper}
theorem Ga{id:Nat}{i:iE}(j:Region.lexB .any l.toArray)(h:∀W,W=w.drew->wpStill dG l.toArray W (λm=>i .normal m W) l a):(Code.region id l.toArray dY).wp dG i a w:=wp_region_still_lit (by kernel_rfl) j (h _ rfl)
theorem Bj{id:Nat}{i:iE}(n:Nat)(j:Region.lexTailB .any l.toArray n)(h:∀W,W=w.drew->wpStill dG l.toArray W (λm=>wpList dG l.toArray i (jD n l) m W) (jT n l) a):(Code.region id l.toArray dY).wp dG i a w:=wp_region_still_tail n (by kernel_rfl) j (h _ rfl)
theorem PS.rep{SB NB HB UB:iN}(h:PS w0 w b bs bn D SB NB HB UB)(i:RX w z vs)(o:U (Q w0)<=z)(v0 v1 v2 v3 v4 v5 v6 v7:dV):PS w0 (nH w z v0 v1 v2 v3 v4 v5 v6 v7) b bs bn D SB NB HB UB:=by
 obtain⟨-,j,hc⟩:=i;exact h.rest ((rT).h o) (λy _ m=>NC m) ⟨_,hc⟩ bf
theorem aj3(w:G)(cs:iA)(ty:TypeId):∃X iY,X=jA w (dO cs ty)/\iY=jA X (dO #[.I 0,.U 0,.U 0,.U 0,.I 0,ay,ay,ay] 50)/\Bw w iY/\U (Q X)=U (Q w)+1/\U (Q iY)=U (Q w)+2/\aT iY (U (Q w)) cs.toList/\RX iY (U (Q w)+1) [.I 0,.U 0,.U 0,.U 0,.I 0,ay,ay,ay]:=by
 let⟨X,q,r,i,s,x⟩:=cR w cs ty;let⟨iY,o,j,u,m⟩:=yi X (.I 0) (.U 0) (.U 0) (.U 0) (.I 0) ay ay ay;rw[i]at m;exact⟨X,iY,q,o,aj r j,i,af,s.dt (j.block _ af),m⟩
theorem QS{Z:G}{N M E D B o5 y o7:dV}(X:O (RX Z z [N,M,E,D,B,o5,y,o7]))(hf:fn.results=#[.cell 4 50])(V:a.tmps.getD 4 jQ=Pz z)(S:a.defers=[])(hQ:R (dR (jP #[v0,v1,v2,v3,v4,v5,v6,v7])) (nH Z z v0 v1 v2 v3 v4 v5 v6 v7)):bodyPost dG fn R .ret a (nH Z z v0 v1 v2 v3 v4 v5 v6 v7):=by
 obtain⟨x,u,s,r,q,o,m,j,-⟩:=(X.put v0 v1 v2 v3 v4 v5 v6 v7).1.cells;generalize nH Z z v0 v1 v2 v3 v4 v5 v6 v7=W at*;refine cX (v:=jP #[v0,v1,v2,v3,v4,v5,v6,v7]) ?_ S hQ;have i:=V;simp only[ci0]at i;simp[results,hf,go_sem,i,x,u,s,r,q,o,m,j]
def rpn(R:RP):dV:=ij R.k R.i R.e R.g R.n ay ay ay
def tg(w0 w:G)(b bs bn:Nat)(D:SD)(SB NB HB UB:iN)(R:RP)(r:Ending)(w':G):Prop:=PS w0 w' b bs bn D SB NB HB UB/\Fr T3 w w'/\r=dR (rpn R)
theorem Ju{w0 w Z:G}{SB NB HB UB:iN}{R:RP}{s r q o m o5 j o7:dV}(B:O (PS w0 Z b bs bn D SB NB HB UB))(E:O (Fr T3 w Z))(i:O (RX Z (U (Q w)+1) [s,r,q,o,m,o5,j,o7]))(M:U (Q w0)<=U (Q w))(hf:fn.results=#[.cell 4 50])(x:a.tmps.getD 4 jQ=Pz (U (Q w)+1))(u:a.defers=[])(y:rpn R=jP #[v0,v1,v2,v3,v4,v5,v6,v7]):bodyPost dG fn (tg w0 w b bs bn D SB NB HB UB R) .ret a (nH Z (U (Q w)+1) v0 v1 v2 v3 v4 v5 v6 v7):=
 QS i hf x u ⟨PS.rep B i af _ _ _ _ _ _ _ _,E.low ((rT (w:=Z) (b:=U (Q w)+1) (v0:=v0) (v1:=v1) (v2:=v2) (v3:=v3) (v4:=v4) (v5:=v5) (v6:=v6) (v7:=v7)).h af),by rw[y]⟩
theorem dN3{α:Type}{l:List α}{a:α}(h:l[k]?=a):l.set k a=l:=by
 refine Ru λj=>?_;rw[vG];by_cases e:k=j;{subst e;rw[aK rfl,aK (bH.1 h).1,h]};{rw[aJ e]}
theorem cm9(hk:D.E[k]?=s):Gs D k=({D with E:=D.E.set k (s.1,max s.2.1 (D.t+10),s.2.2)},{iS with n:=max s.2.1 (D.t+10)}):=by
 unfold Gs;rw[hk];by_cases h:s.2.1<D.t+10;{simp only[aK h];rw[Int.max_eq_right af]};{simp only[aJ h];rw[Int.max_eq_left af,dN3 hk]}
theorem dS3(w:G)(b bs bn:Nat)(D:SD)(SB NB HB UB:iN)(h:O (PS w0 w b bs bn D SB NB HB UB))(k:Nat)(s:aB)(hk:O (D.E[k]?=s))(hr:0<=s.1/\s.1<2^64)(t:Int)(et:O (D.t=t))(ht:0<=t/\t<=1000000):dQ dG 338 #[jP #[.U s.1],Pz b] w (tg w0 w b bs bn (Gs D k).1 SB NB HB UB (Gs D k).2):=by
 rw[cm9 (ae hk),ae et];let⟨g,u,hg,gl,g0,hW⟩:=h.xC hk hr;let⟨X,iY,hX,hY,bY,zX,zY,CY,RY⟩:=aj3 w #[.U s.1] 299
 change O _ at hW
 go_in
 go_wp21
 rw[<-hX,<-hY];refine Ga aS (λW E=>?_);have S:Bw w W:=E▸bY.drew;let⟨k3,k4,kl,kb,k1,kf⟩:=ae hW W S;rw[ae et]at k3;have c1:I W (Aw w 0)=dU s.1:=E▸CY.1 0 _ rfl;have RW:=RY.H (w':=W) (E▸mC);let⟨PW,R⟩:=aQ (h.H S) kb;clear hX hY E kb CY RY
 repeat still_step
 refine qV ?_
 go_wp21
 refine(ey3 k1 kf).h ?_;rintro r Z⟨y,v,rfl⟩;have x:Z.heap[g]?=dO #[.U s.1,.I (max s.2.1 (t+10)),u] 148:=by rw[y];simp[World.setCell,Ac,ae R]
 have z1:=cI x 1;have iO:=One.Hr PW.be (by rw[y];exact db.setCell (p:=(Ad g 1)) aU _:Below g W Z) R g0 al (λz _ aP=>by rw[y];exact gh _ _ _ _ (show z≠_ from aP));obtain⟨-,u',Er,hQ⟩:=PW.vy k s g hk hg;rw[ae R]at Er;cases Er;have N:=PS.zJ (s':=(s.1,max s.2.1 (t+10),s.2.2)) PW hk hg iO rfl ⟨g0,u,x,hQ.T iO.b iO.T bf⟩;rw[ae et]at N;replace N:=ai N;let⟨RZ,FZ⟩:=aQ (RW.T iO.T) ((Fr.H (T:=T3) S).Z iO.T);obtain⟨⟨rc,rf⟩,-⟩:=RW.T iO.T;let⟨r0,r1,r2,r3,r4,r5,r6,r7⟩:=Qd rc;clear y x iO hQ RW rc k3 k4 kl k1 kf c1 R;go_wp2;exact Ju N FZ RZ h.be.size aS rfl rfl rfl
theorem dj0{SB NB HB UB:iN}(h:O (PS w0 w b bs bn D SB NB HB UB))(q:O (D.N[k]?=nd))(y:O (tX D.E))(x:O (NT D.E nd)){id:Int}(i:0<=id/\id<2^64)(R:O (nd.y.Pairwise (·<·)))(E:J nd.y<=2^20)(N:O (nd.y.contains id)):dQ dG 357 #[jP #[.U id,jJ (bg nd.A)],Pz b] w (tg w0 w b bs bn (kV D k id) SB NB HB UB iS):=by
 let⟨X,iY,u,s,o,V,S,CY,M⟩:=aj3 w #[.U id,jJ (bg nd.A)] 311;go_in
 go_wp21
 rw[<-u,<-s];refine(dz2 (h.H o) q y x i R E N).h ?_;rintro r Z⟨j,hF,v,rfl⟩;have m:=M.T hF;have W:=m.cells;replace j:=ai j;go_wp2;exact Ju j ((Fr.H (T:=T3) o).Z hF) m h.be.size aS rfl rfl rfl
theorem eJ4{SB NB HB UB:iN}(h:O (PS w0 w b bs bn D SB NB HB UB))(o:O (D.N[k]?=nd))(x:O (tX D.E))(u:O (NT D.E nd))(y:O (KD D.N)){id:Int}:dQ dG 349 #[jP #[.U id,jJ (bg nd.A)],Pz b] w (tg w0 w b bs bn (xD (ly D k 2) k) SB (jX NB k) (jX HB k) (jX UB k) iS):=by
 let⟨X,S,s,q,m,N,M,V,E⟩:=aj3 w #[.U id,jJ (bg nd.A)] 304;go_in
 go_wp21
 rw[<-s,<-q];refine(dz1 (h.H m) o x u y).h ?_;rintro r Z⟨i,hF,v,rfl⟩;have j:=E.T hF;have R:=j.cells;replace i:=ai i;go_wp2;exact Ju i ((Fr.H (T:=T3) m).Z hF) j h.be.size aS rfl rfl rfl
theorem PS.Lu{SB NB HB UB:iN}(h:PS w0 w b bs bn D SB NB HB UB)(hi:D.N[i]?=nd)(u:J nd.A<=2^20):∃g hh uu V,NB[i]?=Y g/\HB[i]?=Y hh/\UB[i]?=Y uu/\g<U (Q w)/\hh<U (Q w)/\uu<U (Q w)/\U (Q w0)<=g/\∀W,Bw w W->I W (Ad b 5)=Y (.map bn)/\(Instr.lookup 186 (.map bn) (jJ (bg nd.A)) dF).run dG W=.ok (Pz g) W/\PN w0 W g hh uu nd/\W.heap[g]?=dO #[V,.U nd.D,.I nd.M,.map (Y hh),.U nd.P,.U nd.F,.map (Y uu)] 193:=by
 obtain⟨g,hh,uu,hg,jq,jv,o,-⟩:=h.Zu hi u;obtain⟨V,q,-⟩:=o.blk;let⟨es,c,m3⟩:=o.Ey.at;let⟨Z,X,m4⟩:=o.CG.at;refine⟨g,hh,uu,V,hg,jq,jv,gQ q,gQ m3,gQ m4,o.lo.1,λW x=>?_⟩;have y:=h.H x;obtain⟨-,-,-,-,-,M,-⟩:=y.oU;let⟨S,N,B,r,j,m,R,E⟩:=y.Zu hi u;rw[hg]at r;rw[jq]at j;rw[jv]at m;cases r;cases j;cases m;exact⟨M,E,R,(x.block g (gQ q)).Z q⟩
theorem dt3{SB NB HB UB:iN}(h:O (PS w0 w b bs bn D SB NB HB UB))(hk:O (D.N[k]?=nd))(hS:O (tX D.E))(hT:O (NT D.E nd)){id:Int}(hV:O (AB w0 w (.S pv nv cv) V)):dQ dG 353 #[jP #[.U id,jJ (bg nd.A),.S pv nv cv],Pz b] w (tg w0 w b bs bn (ly {D with N:=D.N.set k {nd with V:=V}} k 1) SB NB HB UB iS):=by
 obtain⟨g,hh,uu,V0,hg,jq,jv,gl,-,-,g0,hW⟩:=h.Lu hk hT.pl;let⟨X,iY,hX,hY,bY,zX,zY,CY,RY⟩:=aj3 w #[.U id,jJ (bg nd.A),.S pv nv cv] 308
 change O _ at hW
 go_in
 go_wp21
 rw[<-hX,<-hY];refine Bj 12 aS (λW eW=>?_);have bW:Bw w W:=eW▸bY.drew;let⟨k5,kl,kN,kb⟩:=ae hW W bW;have c1:I W (Aw w 1)=Y (jJ (bg nd.A)):=eW▸CY.1 1 _ rfl;have c2:I W (Aw w 2)=dS pv nv cv:=eW▸CY.1 2 _ rfl;have RW:=RY.H (w':=W) (eW▸mC);have CW:=CY.dt (w':=W) (by rw[eW];rfl);have PW:=ai (h.H bW);have g0c:=cI kb 0;have gf:∀o,jF W (Ad g o)=dF:=λo=>by simp[World.frozen?,kb]
 let⟨KB,KN⟩:=aQ kb kN;clear hX hY eW kb CY RY kN;simp only[Ej,wG,Df,yF]
 repeat still_step
 refine qV ?_;let⟨Z,hZ⟩:=aF (jS W (Ad g 0) (.S pv nv cv));have kZ:∀z,z<U (Q W)->z≠g->Z.heap[z]?=W.heap[z]?:=λz _ aP=>by rw[hZ];exact gh _ _ _ _ (show z≠_ from aP)
 have iO:=One.Hr PW.be (by rw[hZ];exact db.setCell (p:=(Ad g 0)) aU _) KB g0 al kZ;have PZ:=ai (PW.YY hk hg jq jv iO _ V nd.D nd.M nd.P nd.F (by rw[hZ];simp[World.setCell,Ac,ae KB]) ((hV.T (cG bW) al).T iO.T));have RZ:=RW.T iO.T;have d1:I Z (Aw w 1)=Y (jJ (bg nd.A)):=(CW.dt (kZ _ (aM (uS RW.2.choose_spec)) af)).1 1 _ rfl;have FZ:=ai ((Fr.H (T:=T3) bW).Z iO.T);clear kZ iO RW CW KB KN
 go_wp21
 rw[<-hZ];refine(dl1 PZ (k:=k) {nd with V:=V} (uV hk {nd with V:=V}) 1 hS (ai ⟨hT.Xg,hT.pl,hT.Nq,hT.Nu,hT.U8⟩)).h ?_;rintro r iU⟨PU,hF,v,rfl⟩;have RU0:=RZ.T hF;have r0:=RU0.cells;replace PU:=ai PU;let⟨FU,RU⟩:=aQ (FZ.Z hF) RU0;clear RU0 hF RZ d1 hZ;go_wp2;exact Ju PU FU RU h.be.size aS rfl rfl rfl
theorem dh0(w:G)(b bs bn:Nat)(D:SD)(SB NB HB UB:iN)(h:O (PS w0 w b bs bn D SB NB HB UB))(k:Nat)(nd:au)(hk:O (D.N[k]?=nd))(lr:J nd.A<=2^20)(sU:O (nd.X.Pairwise (·<·)))(vL:O (J nd.X<=2^20))(id:Int)(hid:0<=id/\id<2^64):dQ dG 360 #[jP #[.U id,jJ (bg nd.A)],Pz b] w (tg w0 w b bs bn {D with N:=D.N.set k {nd with X:=me nd.X id}} SB NB HB UB iS):=by
 obtain⟨g,hh,uu,V0,hg,jq,jv,gl,-,ul,g0,hW⟩:=h.Lu hk lr;let⟨X,iY,hX,hY,bY,zX,zY,CY,RY⟩:=aj3 w #[.U id,jJ (bg nd.A)] 315
 change O _ at hW
 go_in
 go_wp21
 rw[<-hX,<-hY];refine Bj 15 aS (λW eW=>?_);have bW:Bw w W:=eW▸bY.drew;let⟨k5,kl,kN,kb⟩:=ae hW W bW;have c0:I W (Aw w 0)=dU id:=eW▸CY.1 0 _ rfl;have c1:I W (Aw w 1)=Y (jJ (bg nd.A)):=eW▸CY.1 1 _ rfl;have PW:=ai (h.H bW);have g6:=cI kb 6;let⟨M,n,o,hn,hs,hz⟩:=kN.CG;have o':=Ll o;rw[hz]at o';let⟨Z,gx,ho,qY⟩:=o'.update oO underlying166 (by have:=ae vL;unfold maxLen;omega) (val:=jP #[]) (keyOf_int_mk underlying27 (FR hid)) unitElem_mk;have iO:=One.Hq PW.be qY kN.lo.2.2 (ownsMap_at o');have PZ:=ai (PW.CG hk hg jq jv iO (SM.put (w:=W) hs o'.isMap sU (aM (ae vL)) ho));have zl:=(RY.H (w':=W) (eW▸mC)).T iO.T;have r0:=zl.cells;let⟨FZ,RZ⟩:=aQ ((Fr.H (T:=T3) bW).Z iO.T) zl;clear hX hY eW kb CY RY kN iO ho qY o o' hs hz zl;simp only[Ej,wG,Df,yF]
 repeat still_step
 refine qV ?_;go_wp2;exact Ju PZ FZ RZ h.be.size aS rfl rfl rfl
theorem di9{SB NB HB UB:iN}(h:O (PS w0 w b bs bn D SB NB HB UB))(S:O (D.N[k]?=nd))(E:J nd.A<=2^20){id:Int}(j:0<=id/\id<2^64)(V:O ((if nd.y.contains id then 0 else 10)=C)):dQ dG 358 #[jP #[.U id,jJ (bg nd.A)],Pz b] w (Rb (sC C) w):=by
 obtain⟨g,hh,uu,V0,hg,jq,jv,gl,-,ul,g0,s⟩:=h.Lu S E;obtain⟨X,r,bX,zX,m,-⟩:=cR w #[.U id,jJ (bg nd.A)] 311
 change O _ at s
 go_in
 go_wp21
 rw[<-r];refine Bj 11 aS (λW i=>?_);have x:Bw w W:=i▸bX.drew;let⟨R,M,o,N⟩:=ae s W x;have c0:I W (Aw w 0)=dU id:=i▸m.1 0 _ rfl;have Z:I W (Aw w 1)=Y (jJ (bg nd.A)):=i▸m.1 1 _ rfl;have KN:=ai o;clear r i N m o;simp only[Ej,wG,Df,yF]
 repeat still_step
 refine qV ?_;let⟨B,u⟩:=cg (nd.y.contains id)
 go_wp21
 refine cL (J7 KN j u) λw1 y=>?_;have mW:=ai (aj x y);have e:=ae V;rw[ae u]at e;clear y c0 Z R M;cases B;{cases(by rw[<-e];rfl:C=10);exact aV};{cases(by rw[<-e];rfl:C=0);exact aV}
def aF2(D:SD)(nd:au)(id:Int):Int:=if um D.N nd.A≠[]then 8 else if yW nd id=dF then 9 else 0
theorem eJ3{SB NB HB UB:iN}(h:O (PS w0 w b bs bn D SB NB HB UB))(sU:O ((D.N.map λnd=>kK nd.A).Pairwise (·<·)))(S:O (∀nd∈D.N,aD nd.A/\J nd.A<=2^20))(y:O (D.N[k]?=Y nd)){id:Int}(j:0<=id/\id<2^64)(eC:O (aF2 D nd id=C)):dQ dG 350 #[jP #[.U id,jJ (bg nd.A)],Pz b] w (Rb (sC C) w):=by
 let⟨o,lr⟩:=ae S nd (bq (ae y));obtain⟨g,hh,uu,V0,hg,jq,jv,gl,-,ul,g0,hW⟩:=h.Lu y lr;obtain⟨X,hX,V,zX,CX,-⟩:=cR w #[.U id,jJ (bg nd.A)] 304;have e:=ae eC;unfold aF2 at e;rw[cm3]at e;let⟨L,N⟩:=cg (yK D.N nd.A);rw[ae N]at e;let⟨m,em⟩:=bu (J L);let⟨E,s⟩:=aQ e em;go_in
 go_wp21
 rw[<-hX];refine(cM1 (h.H V) sU S o N).h ?_;rintro r w1⟨p,c,rfl,-,az⟩;rw[ae s];have u:=CX.dt (w':=w1) (az.block _ af);have B1:=ai (aj V az);by_cases M:m=0;{
 subst M;have e2:(if yW nd id=dF then 9 else 0)=C:=by have:=ae E;rw[uJ.1 s]at this;simpa using this
 go_wp21
 refine Bj 11 aS (λW i=>?_);have Z:Bw w W:=i▸B1.drew;let⟨k5,kl,x,kb⟩:=hW W Z;have c0:I W (Aw w 0)=dU id:=i▸u.1 0 _ rfl;have c1:I W (Aw w 1)=Y (jJ (bg nd.A)):=i▸u.1 1 _ rfl;have KN:=ai x;clear i kb u x;simp only[Ej,wG,Df,yF]
 repeat still_step
 refine qV ?_;let⟨B,R⟩:=cg (yW nd id)
 go_wp21
 refine cL (ev7 KN j R) λw5 eh=>?_;have AU:=ai (aj Z eh);have e:=e2;rw[ae R]at e;cases B;{
 obtain rfl:C=9:=by rw[<-e];rfl
 exact aV};{
 obtain rfl:C=0:=by rw[<-e];rfl
 exact aV}};{
 have WM:=uX 0 m;have e':C=8:=by have:=ae E;rw[aK (λe=>M (by rw[<-ae s];simpa using e))]at this;exact this.C
 subst e';exact aV}
def Yz(nd:au)(id:Int):Int:=if nd.M=1/\nd.y.contains id=dF then 9 else 0
theorem dt1{SB NB HB UB:iN}(h:O (PS w0 w b bs bn D SB NB HB UB))(E:O (D.N[k]?=nd))(y:J nd.A<=2^20){id:Int}(j:0<=id/\id<2^64){V:dV}(R:O (Yz nd id=C)):dQ dG 354 #[jP #[.U id,jJ (bg nd.A),.S pv nv cv],Pz b] w (Rb (sC C) w):=by
 obtain⟨g,hh,uu,V0,hg,jq,jv,gl,-,ul,g0,M⟩:=h.Lu E y;obtain⟨X,s,Z,zX,m,-⟩:=cR w #[.U id,jJ (bg nd.A),.S pv nv cv] 308;go_in
 go_wp21
 rw[<-s];refine Ga aS (λW i=>?_);have x:Bw w W:=i▸Z.drew;let⟨k5,kl,r,o⟩:=M W x;have c0:I W (Aw w 0)=dU id:=i▸m.1 0 _ rfl;have c1:I W (Aw w 1)=Y (jJ (bg nd.A)):=i▸m.1 1 _ rfl;have KN:=ai r;have g2:=cI o 2;clear s i o m r
 repeat still_step
 refine qV ?_;have e:=ae R;unfold Yz at e;by_cases hm:nd.M=1;{
 let⟨B,u⟩:=cg (nd.y.contains id);rw[ae u]at e
 go_wp21
 refine cL (J7 KN j u) λw5 N=>?_;have AU:=ai (aj x N);have e:=(by simpa[hm]using e:(if B=dF then 9 else 0)=C);cases B;{cases(by rw[<-e];rfl:C=9);exact aV};{cases(by rw[<-e];rfl:C=0);exact aV}};{
 have Sx:(nd.M==1)=dF:=by simp[hm]
 cases(by rw[<-e];simp[hm]:C=0);exact aV}
def Di(D:SD)(nd:au)(id F:Int):Int:=if nd.y.contains id then 9 else if F=2 then(if nd.M=1 then 9 else 0)else if nd.M≠0 then 9 else if 2^62<=D.g then 12 else 0
theorem dM9{SB NB HB UB:iN}(h:O (PS w0 w b bs bn D SB NB HB UB))(S:O (D.N[k]?=nd))(N:J nd.A<=1048576){id:Int}(hid:0<=id/\id<2^64)(hF:F=1\/F=2)(eC:O (Di D nd id F=C)):dQ dG 356 #[jP #[.U id,jJ (bg nd.A),.I F],Pz b] w (Rb (sC C) w):=by
 obtain⟨g,hh,uu,V0,hg,jq,jv,gl,-,ul,g0,V⟩:=h.Lu S N;obtain⟨X,x,bX,zX,j,-⟩:=cR w #[.U id,jJ (bg nd.A),.I F] 310;have HF:=ai hF;go_in
 go_wp21
 rw[<-x];refine Ga aS (λW i=>?_);have bW:Bw w W:=i▸bX.drew;let⟨k5,kl,u,s⟩:=V W bW;obtain⟨-,R,-⟩:=(h.H bW).oU;have c0:I W (Aw w 0)=dU id:=i▸j.1 0 _ rfl;have c1:I W (Aw w 1)=Y (jJ (bg nd.A)):=i▸j.1 1 _ rfl;have y:I W (Aw w 2)=dI F:=i▸j.1 2 _ rfl;have KN:=ai u;have g2:=cI s 2;clear x i s j u
 repeat still_step
 refine qV ?_;obtain o|o:=ae HF;{
 subst o;by_cases hm:nd.M=0;{
 have HM:=ai hm;let⟨B,eB⟩:=cg (nd.y.contains id)
 go_wp21
 refine cL (J7 KN hid eB) λw5 eh=>?_;have Z:=aq y eh;have d1:=aq R eh;have AU:=ai (aj bW eh);have e:=ae eC;unfold Di at e;rw[ae eB]at e;cases B;{
 by_cases m:4611686018427387904<=D.g;{cases(by rw[<-e];simp[ae HM,m]:C=12);exact aV};{
 have Ie:dD (4611686018427387904<=D.g)=dF:=by simpa using m
 cases(by rw[<-e];simp[ae HM,m]:C=0);exact aV}};{cases(by rw[<-e];simp:C=9);exact aV}};{
 have HM:=ai hm;by_cases E:nd.M=1;{exact aM3};{
 have M:(nd.M==1)=dF:=by simp[E]
 have m0:(nd.M != 0):=by simp[hm]
 exact aM3}}};{
 subst o;by_cases hm:nd.M=1;{have HM:=ai hm;exact aM3};{
 have M:(nd.M==1)=dF:=by simp[hm]
 let⟨B,eB⟩:=cg (nd.y.contains id)
 go_wp21
 refine cL (J7 KN hid eB) λw5 eh=>?_;have Z:=aq y eh;have AU:=ai (aj bW eh);have e:=ae eC;unfold Di at e;rw[ae eB]at e;cases B;{cases(by rw[<-e];simp[hm]:C=0);exact aV};{cases(by rw[<-e];simp:C=9);exact aV}}}
theorem MW(w:G)(cs:iA)(ty:TypeId):∃X iY,X=jA w (dO cs ty)/\iY=jA X (dO #[.I 0,.U 0,.U 0,.U 0,.I 0,ay,ay,ay] 50)/\Bw w iY/\U (Q X)=U (Q w)+1/\U (Q iY)=U (Q w)+2/\iY.heap[U (Q w)]?=dO cs ty/\RX iY (U (Q w)+1) [.I 0,.U 0,.U 0,.U 0,.I 0,ay,ay,ay]:=by
 obtain⟨X,q,s,i,-,r⟩:=cR w cs ty;let⟨iY,o,j,u,m⟩:=yi X (.I 0) (.U 0) (.U 0) (.U 0) (.I 0) ay ay ay;rw[i]at m;exact⟨X,iY,q,o,aj s j,i,af,(j.block _ af).Z r,m⟩
theorem dN0{SB NB HB UB:iN}(h:O (PS w0 w b bs bn D SB NB HB UB))(hk:O (D.N[k]?=nd))(lr:J nd.A<=2^20)(sU:O (nd.y.Pairwise (·<·)))(vL:O (J nd.y<=2^20)){id:Int}(hid:0<=id/\id<2^64)(he:O (nd.P=0/\nd.F=0)):dQ dG 355 #[jP #[.U id,jJ (bg nd.A),.I 2],Pz b] w (tg w0 w b bs bn {D with N:=D.N.set k {nd with M:=2,y:=me nd.y id}} SB NB HB UB iS):=by
 obtain⟨g,hh,uu,V0,hg,jq,jv,gl,-,-,g0,hW⟩:=h.Lu hk lr;let⟨X,iY,hX,hY,bY,zX,zY,BX,RY⟩:=MW w #[.U id,jJ (bg nd.A),.I 2] 310;have Je:=ai BX;have IX:=eG hg jq jv;go_in
 go_wp21
 rw[<-hX,<-hY];refine Ga aS (λW eW=>?_);have nJ:=kH eW;let⟨k5,kl,kN,kb⟩:=hW W (aj bY nJ);have FW:=ai (Fr.H (T:=T3) nJ);have bx:=FW.2 _ _ _ _ bf Je;have c1:=cI bx 1;have c2:=cI bx 2;have g2:=cI kb 2;have gf:∀o,jF W (Ad g o)=dF:=λo=>by simp[World.frozen?,kb]
 have PW:=ai (h.H (aj bY nJ));obtain⟨V',Pe,aR,-⟩:=kN.cells;rw[kb]at aR;cases aR;let⟨HV,KB⟩:=aQ Pe kb;clear hX hY eW kb kN bx Pe nJ
 repeat still_step
 refine qV ?_;let⟨Z,hZ⟩:=aF (jS W (Ad g 2) (.I 2));have bZ:Below g W Z:=by rw[hZ];exact db.setCell (p:=(Ad g 2)) aU _
 have kZ:∀z,z<U (Q W)->z≠g->Z.heap[z]?=W.heap[z]?:=λz _ aP=>by rw[hZ];exact gh _ _ _ _ (show z≠_ from aP)
 have iO:=One.Hr PW.be bZ KB g0 al kZ;let⟨PZ,FZ⟩:=aQ (PW.YY hk IX.1 IX.2.1 IX.2.2 iO V0 nd.V nd.D 2 nd.P nd.F (by rw[hZ];simp[World.setCell,Ac,ae KB]) (HV.T iO.T)) (FW.Z iO.T);clear bZ kZ iO
 go_wp21
 rw[<-hZ];clear hZ c1 c2 g2 gf k5 kl KB HV PW FW;refine Bj 8 aS (λW1 eW1=>?_);have Uf:=kH eW1;let⟨Uw,FW1⟩:=aQ (PZ.H Uf) (FZ.Z (Fr.H (T:=T3) Uf));have c0:=cI (FW1.2 _ _ _ _ bf Je) 0;have kh:=uV hk {nd with M:=2}
 have kN:=Uw.rV k _ g hh uu kh IX.1 IX.2.1 IX.2.2;obtain⟨V1,-,-,-,-,-,n3,-⟩:=kN.cells;let⟨M,n,o,hn,hs,hz⟩:=kN.Ey;have o':=Ll o;rw[hz]at o';let⟨Y2,gx,ho,qY⟩:=o'.update oO underlying166 (by have:=ae vL;show J nd.y<_;unfold maxLen;omega) (val:=jP #[]) (keyOf_int_mk underlying27 (FR hid)) unitElem_mk;have O2:=One.Hq Uw.be qY kN.lo.2.1 (ownsMap_at o');have DT:=Uw.Ey kh IX.1 IX.2.1 IX.2.2 O2 (SM.put (w:=W1) hs o'.isMap sU (by have:=ae vL;show J nd.y+1<=_;omega) ho);simp only[aC8]at DT;replace DT:=ai DT;have FY2:=ai (FW1.Z O2.T);have e2:=cI (FY2.2 _ _ _ _ bf Je) 2;clear eW1 kN O2 ho qY o o' hs hz kh Uf;simp only[Ej,wG,Df,yF]
 repeat still_step
 refine qV ?_
 go_wp21
 clear gx c0 n3 e2;refine Bj 9 aS (λW2 TL=>?_);have Xl:=kH TL;have I0:=ai (DT.H Xl);have QD:=FY2.Z (Fr.H (T:=T3) Xl);have RW2:=RY.T QD;have kN:=I0.rV k _ g hh uu (uV hk {nd with M:=2,y:=me nd.y id}) IX.1 IX.2.1 IX.2.2;obtain⟨V1,-,-,-,-,-,-,n4,n5,-⟩:=kN.cells;simp only[he.1,he.2]at n4 n5;exact bM6
theorem dN1{SB NB HB UB:iN}(h:O (PS w0 w b bs bn D SB NB HB UB))(hk:O (D.N[k]?=nd))(lr:J nd.A<=2^20)(sU:O (nd.y.Pairwise (·<·)))(vL:O (J nd.y<=2^20)){id:Int}(hid:0<=id/\id<2^64)(J3:0<=D.g/\D.g<2^62):dQ dG 355 #[jP #[.U id,jJ (bg nd.A),.I 1],Pz b] w (tg w0 w b bs bn {D with g:=D.g+1,N:=D.N.set k {nd with M:=1,y:=me nd.y id,P:=D.e,F:=D.g+1}} SB NB HB UB {iS with e:=D.e,g:=D.g+1}):=by
 obtain⟨g,hh,uu,V0,hg,jq,jv,gl,-,-,g0,hW⟩:=h.Lu hk lr;let⟨X,iY,hX,hY,bY,zX,zY,BX,RY⟩:=MW w #[.U id,jJ (bg nd.A),.I 1] 310;let⟨HW,Je,GY⟩:=gC hW BX RY;have IX:=eG hg jq jv;clear hW BX RY hg jq jv;go_in
 go_wp21
 rw[<-hX,<-hY];refine Ga aS (λW eW=>?_);have nJ:=kH eW;let⟨k5,kl,kN,kb⟩:=ae HW W (aj bY nJ);have FW:=ai (Fr.H (T:=T3) nJ);have bx:=FW.2 _ _ _ _ bf Je;have c1:=cI bx 1;have c2:=cI bx 2;have g2:=cI kb 2;have gf:∀o,jF W (Ad g o)=dF:=λo=>by simp[World.frozen?,kb]
 have PW:=ai (h.H (aj bY nJ));obtain⟨V',Pe,aR,-⟩:=kN.cells;rw[kb]at aR;cases aR;let⟨HV,KB⟩:=aQ Pe kb;clear hX hY eW kb kN bx Pe nJ
 repeat still_step
 refine qV ?_;let⟨Z,hZ⟩:=aF (jS W (Ad g 2) (.I 1));have bZ:Below g W Z:=by rw[hZ];exact db.setCell (p:=(Ad g 2)) aU _
 have kZ:∀z,z<U (Q W)->z≠g->Z.heap[z]?=W.heap[z]?:=λz _ aP=>by rw[hZ];exact gh _ _ _ _ (show z≠_ from aP)
 have iO:=One.Hr PW.be bZ KB g0 al kZ;let⟨PZ,FZ⟩:=aQ (PW.YY hk IX.1 IX.2.1 IX.2.2 iO V0 nd.V nd.D 1 nd.P nd.F (by rw[hZ];simp[World.setCell,Ac,ae KB]) (HV.T iO.T)) (FW.Z iO.T);clear bZ kZ iO
 go_wp21
 rw[<-hZ];clear hZ c1 c2 g2 gf k5 kl KB HV PW FW;refine Bj 8 aS (λW1 eW1=>?_);have Uf:=kH eW1;let⟨Uw,FW1⟩:=aQ (PZ.H Uf) (FZ.Z (Fr.H (T:=T3) Uf));have c0:=cI (FW1.2 _ _ _ _ bf Je) 0;have kh:=uV hk {nd with M:=1}
 have kN:=Uw.rV k _ g hh uu kh IX.1 IX.2.1 IX.2.2;obtain⟨V1,-,-,-,-,-,n3,-⟩:=kN.cells;let⟨M,n,o,hn,hs,hz⟩:=kN.Ey;have o':=Ll o;rw[hz]at o';let⟨Y2,gx,ho,qY⟩:=o'.update oO underlying166 (by have:=ae vL;show J nd.y<_;unfold maxLen;omega) (val:=jP #[]) (keyOf_int_mk underlying27 (FR hid)) unitElem_mk;have O2:=One.Hq Uw.be qY kN.lo.2.1 (ownsMap_at o');have DT:=Uw.Ey kh IX.1 IX.2.1 IX.2.2 O2 (SM.put (w:=W1) hs o'.isMap sU (by have:=ae vL;show J nd.y+1<=_;omega) ho);simp only[aC8]at DT;replace DT:=ai DT;let⟨FY2,oR⟩:=aQ (FW1.Z O2.T) (uV hk {nd with M:=1,y:=me nd.y id});have e2:=cI (FY2.2 _ _ _ _ bf Je) 2;clear eW1 kN O2 ho qY o o' hs hz kh Uf;simp only[Ej,wG,Df,yF]
 repeat still_step
 refine qV ?_;let⟨q0,q1,q2,q3,q4,q5,qf⟩:=DT.oU;let⟨Z3,hZ3⟩:=aF (jS Y2 (Ad b 1) (.U (D.g+1)));have O3:=One.Hr DT.be (by rw[hZ3];exact db.setCell (p:=(Ad b 1)) aU _:Below b Y2 Z3) DT.hd DT.lo.1 al (λz _ aP=>by rw[hZ3];exact gh _ _ _ _ (show z≠_ from aP));let⟨P3,F3⟩:=aQ (DT.aO4 O3 D.e (D.g+1) D.x D.t (by rw[hZ3];simp[World.setCell,Ac,DT.hd])) (FY2.Z O3.T);clear O3
 go_wp21
 rw[<-hZ3];clear hZ3 gx c0 n3 e2 q0 q1 q2 q3 q4 q5 qf;let⟨vA,br⟩:=aF Z3.drew;have bA:=kH br;let⟨PA,FA⟩:=aQ (P3.H bA) (F3.Z (Fr.H (T:=T3) bA));obtain⟨q0,q1,-⟩:=PA.oU;have kN:=PA.rV k _ g hh uu oR IX.1 IX.2.1 IX.2.2;obtain⟨V1,xY,kb1,-,-,-,-,n4,n5,-,nf⟩:=kN.cells;have Iu:b≠g:=λe=>by have:=PA.hd;rw[e,kb1]at this;simp at this
 have HKB:=bG xY kb1;clear bA kN xY kb1;refine fw (λw'=>I w' (Ad b 0)=dU D.e/\I w' (Ad b 1)=dU (D.g+1)) (by rw[<-br];exact⟨q0,q1⟩) λhS=>?_;rw[<-br]at hS⊢;clear br;refine gr 0 1 2 3 4 5 6 7 hS ?_;refine iy 8 9 10 11 hS ?_;refine ry [12] ?_;refine cn (λKK hK=>?_) ?_;rotate_left;exact fN;rotate_right;go_simp;let⟨Z4,hZ4⟩:=aF (jS vA (Ad g 4) (.U D.e));have k4:∀z,z≠g->Z4.heap[z]?=vA.heap[z]?:=λz aP=>by rw[hZ4];exact gh _ _ _ _ (show z≠_ from aP)
 have b4:Below g vA Z4:=by rw[hZ4];exact db.setCell (p:=(Ad g 4)) aU _
 have L8:Z4.heap[g]?=dO #[V1,.U nd.D,.I 1,.map hh,.U D.e,.U nd.F,.map uu] 193:=by rw[hZ4];simp[World.setCell,Ac,HKB.2]
 rw[<-hZ4];have p0:=(gG (k4 b Iu) 0).Z q0;have p1:=(gG (k4 b Iu) 1).Z q1;refine bS hK ⟨p0,p1⟩ λhS=>?_;clear hK KK n4 n5 nf hZ4 q0 q1;refine fu 13 14 hS ?_;have m5:=cI L8 5;have mf:∀o,jF Z4 (Ad g o)=dF:=λo=>by simp[World.frozen?,L8]
 have H4:=eG L8 k4 b4;clear L8 k4 b4;refine ry [15] ?_;refine cn (λKK hK=>?_) ?_;rotate_left;exact fN;rotate_right;go_simp;let⟨Z5,hZ5⟩:=aF (jS Z4 (Ad g 5) (.U (D.g+1)));have k5:∀z,z≠g->Z5.heap[z]?=Z4.heap[z]?:=λz aP=>by rw[hZ5];exact gh _ _ _ _ (show z≠_ from aP)
 rw[<-hZ5];have O5:=One.Hr PA.be (H4.2.2.Z (by rw[hZ5];exact db.setCell (p:=(Ad g 5)) aU _)) HKB.2 g0 al (λz _ aP=>(k5 z aP).Z (H4.2.1 z aP));have P5:=PA.YY oR IX.1 IX.2.1 IX.2.2 O5 V1 nd.V nd.D 1 D.e (D.g+1) (by rw[hZ5];simp[World.setCell,Ac,H4.1]) (HKB.1.T O5.T);simp only[aC8]at P5;let⟨PY3,FY3⟩:=aQ P5 (FA.Z O5.T);refine bS hK ⟨(gG (k5 b Iu) 0).Z p0,(gG (k5 b Iu) 1).Z p1⟩ λhS=>?_;clear hK KK hZ5 k5 O5 P5 m5 mf p0 p1;refine fQ ?_;clear hS
 go_wp21
 refine Bj 9 aS (λW2 TL=>?_);have Xl:=kH TL;have I0:=ai (PY3.H Xl);have QD:=FY3.Z (Fr.H (T:=T3) Xl);have RW2:=GY.T QD;have kN:=I0.rV k _ g hh uu (uV hk {nd with M:=1,y:=me nd.y id,P:=D.e,F:=D.g+1}) IX.1 IX.2.1 IX.2.2;obtain⟨V2,-,-,-,-,-,-,n4,n5,-⟩:=kN.cells;exact bM6
variable {cs:List dV}
theorem aR1{α:Type}{el:G->α->List dV->Prop}{P:Program}{K:Act->G->Prop}{iZ:iE}(ik:o.guard=dN){s x:Operand}{t:TypeId}(ho:o.op=.call {callee:=.builtin .append,args:=#[s,x],argTypes:=#[t,t]}){e:TypeId}(i:TypeInfo){z:dV}(size:Nat)(ht:P.underlying t=Y (.slice e))(hi:P.info? e=i)(hz:i.zero=z)(Me:i.size=size)(dr:i.bytes=bytes)(Ot:z.cells.size=size)(gj:0<size){xs:List α}(ek:Le xs k)(hs:a.eval s=v)(dw:RT el e size B w v xs)(g:Nat)(y:α)(hx:a.eval x=.T g 1 1)(iW:el w y cs)(vM:J cs=size)(sV:∀j u,cs[j]?=Y u->I w (Ad g j)=Y u)(h1:∀u∈cs,u.oneCell')(il:∀w',Fr [e] w w'->∀x c,el w x c->el w' x c)(hk:k<2^22)(hbt:bytes<=256)(hB:B<=U (Q w))(h:∀p' c' w',RT el e size B w' (.S p' (k+1) c') (xs++[y])->jG w w' (jB v)->Fr [e] w w'->(∀g,jB (Value.slice p' (k+1) c')=Y g->jB v=Y g\/U (Q w)<=g)->K (a.put o.dst (.S p' (k+1) c')) w'):if jW o (yielded ops a.tmps)then Oper.wp P o a w K iZ else E:=by
 have htt:=dw.vW;obtain⟨rs,g1,g2,g3,g4⟩:=dw;rw[ae ek]at g3;refine Ve ik ho i size ht hi hz Me dr Ot gj hs g3 1 1 cs hx (by rw[vM,Nat.one_mul]) sV h1 kW (by have:=Nat.mul_le_mul (show k+1<=2^22 by omega) hbt;omega) hB ?_
 intro v' w' gF hg Eu;have hf:Fr [e] w w':=Fr.grown hg λb hb=>by let⟨cur,hc⟩:=htt b hb;exact⟨cur,_,hc,al⟩
 have sn:RT el e size B w' v' (xs++[y]):=RT.snoc g1 g2 g4 (il w' hf) iW vM (ae ek▸gF);obtain⟨p',c',rfl,-⟩:=RT.form sn;rw[fe,ae ek]at sn Eu⊢;exact h p' c' w' sn hg hf Eu
theorem eM4{p4 p7:OA}{c4 c7 q:Nat}(e0:Le nd.A n0)(e1:Le nd.V n1)(e4:Le nd.y n4)(e7:Le nd.X q)(h0:Rd w (.S p0 n0 c0) nd.A)(h1:Rd w (.S p1 n1 c1) nd.V)(h4:kI w (.S p4 n4 c4) nd.y)(h7:kI w (.S p7 q c7) nd.X)(l0:Mg n0)(l1:Mg n1)(l4:Mg n4)(l7:Mg q):dQ dG 113 #[Ee (.S p0 n0 c0) (.S p1 n1 c1) nd.D nd.M (.S p4 n4 c4) nd.P nd.F (.S p7 q c7)] w λr w'=>∃x y q1 d1 q4 d4 M N,r=dR (Ee (.S x n0 y) (.S q1 n1 d1) nd.D nd.M (.S q4 n4 d4) nd.P nd.F (.S M q N))/\TC (U (Q w)) w' (.S x n0 y) nd.A/\TC (U (Q w)) w' (.S q1 n1 d1) nd.V/\TU (U (Q w)) w' (.S q4 n4 d4) nd.y/\TU (U (Q w)) w' (.S M q N) nd.X/\Bw w w':=by
 have HR:=ai λ(w':G)(hb:Bw w w')=>aE (h0.H hb) (aE (h1.H hb) (aE (h4.H hb) (h7.H hb)));let⟨W0,cT,b0,z0,C0,T0⟩:=cR w #[.S p0 n0 c0,.S p1 n1 c1,.U nd.D,.I nd.M,.S p4 n4 c4,.U nd.P,.U nd.F,.S p7 q c7] 149;let⟨W1,fT,b1,z1,C1,T1⟩:=cR W0 #[ay,ay,.U 0,.I 0,ay,.U 0,.U 0,ay] 149;rw[z0]at C1 T1 z1;have B0:=ai (aj b0 b1);have T0:O (∃cur,W1.heap[U (Q w)]?=dO cur 149):=⟨_,(b1.block _ af).Z T0⟩;have TR:O (∃cur,W1.heap[U (Q w)+1]?=dO cur 149):=⟨_,T1⟩;go_in
 go_wp21
 rw[<-cT,<-fT];refine(Dj e0 (ae HR W1 B0).1 af).h ?_;rintro r w1⟨x,y,rfl,Z,m⟩;have s:=(C0.H af b1).H af m;have TY:∃cur,w1.heap[U (Q w)]?=dO cur 149:=T0.imp λcur hc=>(m.block _ af).Z hc;have RY:=C1.H af m;let⟨X,i⟩:=aF (jS w1 (Aw w 0) (.S x n0 y));have TR':∃cur,w1.heap[U (Q w)+1]?=dO cur 149:=TR.imp λcur hc=>(m.block _ af).Z hc;have TR:O (∃cur,X.heap[U (Q w)+1]?=dO cur 149):=by rw[i];exact ai (TR'.imp λcur hc=>(gh _ _ _ _ (by show U (Q w)+1≠U (Q w);omega)).Z hc)
 have o:=qL (j:=0) (u:=.S x n0 y) TY;rw[<-i]at o;have kj:=s.1 0 _ rfl;have kf:=s.2 0;have zj:=m.size;have Z1:U (Q w)+1+1<=U (Q X):=by rw[i];simp;omega
 have C1:O (aT X (U (Q w)) [.S x n0 y,.S p1 n1 c1,.U nd.D,.I nd.M,.S p4 n4 c4,.U nd.P,.U nd.F,.S p7 q c7]):=i▸ai (s.ew 0 al _);have T1:=ai o.1;have R1:O (aT X (U (Q w)+1) [ay,ay,.U 0,.I 0,ay,.U 0,.U 0,ay]):=by rw[i];exact ai (RY.py (a:=(Aw w 0)) (by show U (Q w)+1≠U (Q w);omega) _)
 have B1:O (Bw w X):=by rw[i];exact ai ((aj (ae B0) m).setCell (p:=(Aw w 0)) aU _)
 have E:=ai ((Z.tc (B:=U (Q w)) af).T o.2);let⟨X1,hN⟩:=aF X;rw[<-hN]at C1 T1 R1 B1 Z1 TR i E;have k1:=C1.1 1 _ rfl;rw[i]at k1
 go_wp21
 rw[<-i];refine(Dj e1 (ae HR X1 B1).2.1 af).h ?_;rintro r w2⟨q1,d1,rfl,Z,m⟩;have s:=C1.H af m;have TY:∃cur,w2.heap[U (Q w)]?=dO cur 149:=T1.imp λcur hc=>(m.block _ af).Z hc;have RY:=R1.H af m;let⟨X,i⟩:=aF (jS w2 (Aw w 1) (.S q1 n1 d1));have TR':∃cur,w2.heap[U (Q w)+1]?=dO cur 149:=TR.imp λcur hc=>(m.block _ af).Z hc;have TR:O (∃cur,X.heap[U (Q w)+1]?=dO cur 149):=by rw[i];exact ai (TR'.imp λcur hc=>(gh _ _ _ _ (by show U (Q w)+1≠U (Q w);omega)).Z hc)
 have o:=qL (j:=1) (u:=.S q1 n1 d1) TY;rw[<-i]at o;have kj:=s.1 1 _ rfl;have kf:=s.2 1;have zj:=m.size;have Z2:U (Q w)+1+1<=U (Q X):=by rw[i];simp;omega
 have C2:O (aT X (U (Q w)) [.S x n0 y,.S q1 n1 d1,.U nd.D,.I nd.M,.S p4 n4 c4,.U nd.P,.U nd.F,.S p7 q c7]):=i▸ai (s.ew 1 al _);have T2:=ai o.1;have R2:O (aT X (U (Q w)+1) [ay,ay,.U 0,.I 0,ay,.U 0,.U 0,ay]):=by rw[i];exact ai (RY.py (a:=(Aw w 1)) (by show U (Q w)+1≠U (Q w);omega) _)
 have B2:O (Bw w X):=by rw[i];exact ai ((aj (ae B1) m).setCell (p:=(Aw w 1)) aU _)
 let⟨E,W⟩:=aQ (((E.T (cG m)).T o.2)) ((Z.tc (B:=U (Q w)) af).T o.2);let⟨X2,hN⟩:=aF X;rw[<-hN]at C2 T2 R2 B2 Z2 TR i E W;have k4:=C2.1 4 _ rfl;rw[i]at k4
 go_wp21
 rw[<-i];refine(cl8 e4 (ae HR X2 B2).2.2.1 af).h ?_;rintro r w3⟨q4,d4,rfl,Z,m⟩;have s:=C2.H af m;let⟨X,i⟩:=aF (jS w3 (Aw w 4) (.S q4 n4 d4));have TR:O (∃cur,X.heap[U (Q w)+1]?=dO cur 149):=by rw[i];exact ai ((TR.imp λcur hc=>(m.block _ af).Z hc).imp λcur hc=>(gh _ _ _ _ (by show U (Q w)+1≠U (Q w);omega)).Z hc)
 have o:=qL (j:=4) (u:=.S q4 n4 d4) (T2.imp λcur hc=>(m.block _ af).Z hc);rw[<-i]at o;have kj:=s.1 4 _ rfl;have kf:=s.2 4;have zj:=m.size;have Z3:U (Q w)+1+1<=U (Q X):=by rw[i];simp;omega
 have C3:O (aT X (U (Q w)) [.S x n0 y,.S q1 n1 d1,.U nd.D,.I nd.M,.S q4 n4 d4,.U nd.P,.U nd.F,.S p7 q c7]):=i▸ai (s.ew 4 al _);have T3:=ai o.1;have R3:O (aT X (U (Q w)+1) [ay,ay,.U 0,.I 0,ay,.U 0,.U 0,ay]):=by rw[i];exact ai ((R2.H af m).py (a:=(Aw w 4)) (by show U (Q w)+1≠U (Q w);omega) _)
 have B3:O (Bw w X):=by rw[i];exact ai ((aj (ae B2) m).setCell (p:=(Aw w 4)) aU _)
 let⟨E,W,t4⟩:=gC (((E.T (cG m)).T o.2)) (((W.T (cG m)).T o.2)) ((Z.tu (B':=U (Q w)) af).T o.2);let⟨X3,hN⟩:=aF X;rw[<-hN]at C3 T3 R3 B3 Z3 TR i E W t4;have k7:=C3.1 7 _ rfl;rw[i]at k7
 go_wp21
 rw[<-i];refine(cl8 e7 (ae HR X3 B3).2.2.2 af).h ?_;rintro r w4⟨M,N,rfl,Z,m⟩;have s:=C3.H af m;let⟨X,i⟩:=aF (jS w4 (Aw w 7) (.S M q N));have TR:O (∃cur,X.heap[U (Q w)+1]?=dO cur 149):=by rw[i];exact ai ((TR.imp λcur hc=>(m.block _ af).Z hc).imp λcur hc=>(gh _ _ _ _ (by show U (Q w)+1≠U (Q w);omega)).Z hc)
 have o:=qL (j:=7) (u:=.S M q N) (T3.imp λcur hc=>(m.block _ af).Z hc);rw[<-i]at o;have kj:=s.1 7 _ rfl;have kf:=s.2 7;have zj:=m.size;have Z4:U (Q w)+1+1<=U (Q X):=by rw[i];simp;omega
 have V:O (aT X (U (Q w)) [.S x n0 y,.S q1 n1 d1,.U nd.D,.I nd.M,.S q4 n4 d4,.U nd.P,.U nd.F,.S M q N]):=i▸ai (s.ew 7 al _);have T4:=ai o.1;have R:O (aT X (U (Q w)+1) [ay,ay,.U 0,.I 0,ay,.U 0,.U 0,ay]):=by rw[i];exact ai ((R3.H af m).py (a:=(Aw w 7)) (by show U (Q w)+1≠U (Q w);omega) _)
 have B4:O (Bw w X):=by rw[i];exact ai ((aj (ae B3) m).setCell (p:=(Aw w 7)) aU _)
 let⟨E,W,t4,t7⟩:=zk (((E.T (cG m)).T o.2)) (((W.T (cG m)).T o.2)) (((t4.T (cG m)).T o.2)) ((Z.tu (B':=U (Q w)) af).T o.2);let⟨X4,hN⟩:=aF X;rw[<-hN]at V T4 R B4 Z4 TR i E W t4 t7;obtain⟨s0,s1,s2,s3,s4,s5,s6,s7,sf⟩:_/\_/\_/\_/\_/\_/\_/\_/\_:=⟨V.1 0 _ rfl,V.1 1 _ rfl,V.1 2 _ rfl,V.1 3 _ rfl,V.1 4 _ rfl,V.1 5 _ rfl,V.1 6 _ rfl,V.1 7 _ rfl,V.2⟩;obtain⟨r0,r1,r2,r3,r4,r5,r6,r7,rf⟩:_/\_/\_/\_/\_/\_/\_/\_/\_:=⟨R.1 0 _ rfl,R.1 1 _ rfl,R.1 2 _ rfl,R.1 3 _ rfl,R.1 4 _ rfl,R.1 5 _ rfl,R.1 6 _ rfl,R.1 7 _ rfl,R.2⟩;rw[i]at s0 s1 s2 s3 s4 s5 s6 s7 sf r0 r1 r2 r3 r4 r5 r6 r7 rf;go_wp2;rw[<-i]at*;obtain⟨-,fF⟩:=cc4 (v0:=.S x n0 y) (v1:=.S q1 n1 d1) (v2:=.U nd.D) (v3:=.I nd.M) (v4:=.S q4 n4 d4) (v5:=.U nd.P) (v6:=.U nd.F) (v7:=.S M q N) TR;refine cX (v:=Ee (.S x n0 y) (.S q1 n1 d1) nd.D nd.M (.S q4 n4 d4) nd.P nd.F (.S M q N)) (by simp[results,results113,go_sem,r0,r1,r2,r3,r4,r5,r6,r7]) rfl ?_;exact⟨x,y,q1,d1,q4,d4,M,N,rfl,E.T fF,W.T fF,t4.T fF,t7.T fF,B4.Z ((rT (w:=X4) (b:=U (Q w)+1) (v0:=.S x n0 y) (v1:=.S q1 n1 d1) (v2:=.U nd.D) (v3:=.I nd.M) (v4:=.S q4 n4 d4) (v5:=.U nd.P) (v6:=.U nd.F) (v7:=.S M q N)).h af)⟩
theorem qI.get(h:qI w (.S p n c) es){e:Ev}(j:es[i]?=e):∃b o u,p=(Ad b o)/\I w (Ad b (o+i*2))=dI e.1/\I w (Ad b (o+i*2+1))=Y u/\Rd w u e.2:=by
 obtain⟨D,E,m,q⟩:=h;simp only[rE]at m;obtain⟨rfl,-,rfl⟩:=m;obtain B|⟨b,o,rfl,r⟩:=q;{rw[B]at j;simp at j};{let⟨y,u,x,s⟩:=r i e j;exact⟨b,o,u,rfl,y,x,s⟩}
theorem ey8{iZ:List Ev}(en:Le iZ n)(h:qI w (.S p n c) iZ)(hn:Mg n)(Kd:O (∀e∈iZ,J e.2<=2^20)):dQ dG 112 #[.S p n c] w λr w'=>∃p' c',r=dR (.S p' n c')/\nF (U (Q w)) w' (.S p' n c') iZ/\Bw w w':=by
 let⟨ie,Ws,jk,fI,gv⟩:=mJ Tryz.infoEv;have W:=gJ Ws jk fI gv;go_in;go_wp2
 go_loopw[3,4](λov iv wr=>∃(k:Nat)(M:List Ev)(po:OA)(co:Nat),k<=n/\iv=.I k/\ov=.S po k co/\Le M k/\O (jT k iZ=M)/\O (nF (U (Q w)) wr (.S po k co) M)/\O (Bw w wr)) (λ_ iv _=>n-(jN (intOf iv)))
 exact⟨0,[],dN,0,de _,rfl,rfl,rfl,(ai (by simp)),RT.nil _ _ _ _ _,bD _ _⟩;{
 obtain⟨k,M,po,co,hk,rfl,rfl,eM,hM,hQ,N⟩:=hrel;have zr:=N.size;by_cases aH:k<n;{
 have dm:=cM k n;obtain⟨y,hy⟩:∃y,iZ[k]?=Y y:=⟨_,bN (ae en▸aH)⟩;have E1:=ai (by rw[rD,hy,ae hM];rfl:jT (k+1) iZ=M++[y]);have hyl:=ae Kd y (bq hy);obtain⟨b,o,u,rfl,c0,c1,m⟩:=(ae (ai λ(w':G)(hb:Bw w w')=>h.H hb) w db).get hy;obtain⟨pu,cu,rfl,Er⟩:=m;have RU:=ai (show Rd w (.S pu (J y.2) cu) y.2 from⟨pu,cu,rfl,Er⟩);let⟨nu,q⟩:=cg (J y.2);rw[ae q]at c1 RU hyl;have X:=ai (λ(v:G)(V:Bw w v)=>aE (aq c0 V) (aq c1 V))
 go_wp21
 let⟨vA,br⟩:=aF wr.drew;have bM:=kH br;have BA:=ai bM;have BW:=λ(v:G)(V:Bw wr v)=>aj N V;refine fw (λw'=>I w' (Ad b (o+k*2))=dI y.1/\I w' (Ad b (o+k*2+1))=dS pu nu cu) (br▸ae X vA (BW vA bM)) λhS=>?_;rw[<-br]at hS⊢;refine gr 0 1 2 3 4 5 6 7 hS ?_;refine fu 8 9 hS ?_;refine tn 10 hS ?_;refine fy 11 λKK hK=>?_;refine ju (Dj q (RU.H (BW vA BA)) af) ?_;rintro r v1⟨pa,ca,rfl,oa,km⟩;refine fE ?_;have B1:=ai (aj BA km);refine bS hK (X v1 (BW v1 B1)) λhS=>?_;refine tn 12 hS ?_;refine fy 13 λKK hK=>?_;go_simp;obtain⟨Z,hZ,bZ,zZ,CZ,-⟩:=cR v1 #[.I y.1,.S pa nu ca] 125;rw[<-hZ];have B2:=ai (aj B1 bZ);have QZ:=ai (nF.T hQ (cG B2));have z2:=B2.size;refine bS hK (X Z (BW Z B2)) λhS=>?_;refine fy 14 λKK hK=>?_;refine aR1 aY aY ie 2 underlying48 W.1 W.2.1 W.2.2.1 W.2.2.2 rfl bf eM aY (ae QZ) (U (Q v1)) y (cs:=[.I y.1,.S pa nu ca]) aY ⟨_,rfl,((oa.tc (B:=U (Q w)) (by have:=BA.size;have:=N.size;omega)).T (cG bZ))⟩ rfl (λj u m=>CZ.1 j u m) (λu m=>by simp at m;obtain rfl|rfl:=m<;>rfl) (λw' hf=>MH.T hf bf) af af af ?_;intro p' c' w9 Gv qm f9 _;have B9:=ai ((N.Z (B2.h af)).grown qm af (λb' e=>(QZ.lt b' e).1));refine bS hK (ae X w9 B9) λhS=>?_;refine tn 15 hS ?_;refine fQ ?_;go_wp2;go_roundw;exact⟨k+1,M++[y],p',c',af,by go_num,rfl,ai (by rw[fe,ae eM];rfl),E1,Gv,B9⟩;exact dy};{have dm:=ga k n;cases(af:k=n);have e1:=ae hM;rw[nZ (by rw[ae en];omega)]at e1;subst e1;go_wp2;go_ret;exact⟨_,_,rfl,hQ,N⟩}}
theorem fh.snoc{v':dV}{r:dV}(h:fh B w v ss Qs)(hf:Fr [148] w w')(V:nF B w r s.2.2)(q:∀(j:Nat)(u:dV)(b:Nat),Qs[j]?=Y u->jB u=Y b->jB r≠Y b)(hr:RT Fh 148 3 B w' v' (ss.zip Qs++[(s,r)])):fh B w' v' (ss++[s]) (Qs++[r]):=by
 have x:=h.len;refine⟨by simp[x],by rw[List.zip_append x.C];exact hr,λi R u o hq=>?_,λi j N M b S hq m E=>?_⟩;{
 by_cases D:i<J ss;{rw[oI D]at o;rw[oI af]at hq;exact(h.vD i R u o hq).T hf};{
 have W:i=J ss:=by have:=(bH.1 o).1;simp at this;omega
 subst W;rw[qT aU,Ab]at o;rw[qT af,x,Ab]at hq;simp at o hq;subst o hq;exact V.T hf}};{
 by_cases D:i<J Qs;{
 rw[oI D]at hq;by_cases y:j<J Qs;{rw[oI y]at m;exact h.py i j N M b S hq m E};{
 rw[qT af]at m;have e:j-(J Qs)=0:=by have:=(bH.1 m).1;simp at this;omega
 rw[e]at m;simp at m;subst m;exact q i N b hq E}};{
 rw[qT af]at hq;have e:i-(J Qs)=0:=by have:=(bH.1 hq).1;simp at this;omega
 rw[e]at hq;simp at hq;subst hq;have y:j<J Qs:=by have:=(bH.1 m).1;simp at this;omega
 rw[oI y]at m;exactλX=>q j M b m X E}}
theorem fh.h(h:fh B w v ss Qs)(j:B'<=B):fh B' w v ss Qs:=⟨h.len,RT.h h.row j,λi s m o hq=>(h.vD i s m o hq).h j,h.py⟩
theorem nO.get(h:nO w (jC p n c) ss)(j:ss[i]?=s):∃b o u,p=Y ⟨b,o,dN⟩/\I w ⟨b,o+i*3,dN⟩=Y (jK jU s.1)/\I w ⟨b,o+i*3+1,dN⟩=Y (jK jV s.2.1)/\I w ⟨b,o+i*3+2,dN⟩=Y u/\qI w u s.2.2:=by
 obtain⟨M,N,m,q⟩:=h;simp only[rE]at m;obtain⟨rfl,-,rfl⟩:=m;obtain E|⟨b,o,rfl,r⟩:=q;{rw[E]at j;simp at j};{let⟨D,B,u,y,x⟩:=r i s j;exact⟨b,o,u,rfl,D,B,y,x⟩}
def YB(w:G)(b:Nat)(st i:List dV):Prop:=BX w b st/\BX w (b+1) [jK jU 0,jK jU 0,jK jU 0,jK jV 0,jC dN 0 0,jC dN 0 0]/\BX w (b+1+1) i
theorem YB.T{T:List TypeId}{st out:List dV}(h:YB w b st out)(hf:Fr T w w')(ht:44∉T:=by decide):YB w' b st out:=⟨h.1.T hf ht,h.2.1.T hf ht,h.2.2.T hf ht⟩
theorem YB.set{st i:List dV}(h:YB w b st i)(j:Nat)(m:j<J i)(u:dV):YB (jS w ⟨b+1+1,j,dN⟩ u) b st (i.set j u)/\Fr [44] w (jS w ⟨b+1+1,j,dN⟩ u):=
 ⟨⟨h.1.Yy af,h.2.1.Yy af,h.2.2.1.ew j m u,(qL h.2.2.2).1⟩,(qL h.2.2.2).2⟩
theorem aF3(en:Le ss n)(em:Le ns m)(h:nO w (jC p n c) ss)(hN:iw w (jC q m d) ns)(hn:Mg n)(hm:Mg m)(ig:O (∀s∈ss,J s.2.2<=2^20/\∀ev∈s.2.2,J ev.2<=2^20))(oW:O (∀nd∈ns,J nd.A<=2^20/\J nd.V<=2^20/\J nd.y<=2^20/\J nd.X<=2^20)):dQ dG 56 #[cO e g x t (jC p n c) (jC q m d)] w λr w'=>∃p' c' q' d',r=dR (cO e g x t (jC p' n c') (jC q' m d'))/\(∃Qs,fh (U (Q w)) w' (jC p' n c') ss Qs)/\ld (U (Q w)) w' (jC q' m d') ns/\Below (U (Q w)) w w':=by
 let⟨is,SK,Cb,fO,Al⟩:=mJ Tryz.infoSes;let⟨iN,hiN,Cd,oQ,vK⟩:=mJ Tryz.infoNod;have HI:=nK (aE SK (aE Cb (aE fO Al))) hiN Cd oQ vK;have HR:=bG h hN;let⟨W0,cT,b0,z0,C0⟩:=yj w (jK jU e) (jK jU g) (jK jU x) (jK jV t) (jC p n c) (jC q m d);let⟨W1,fT,b1,z1,C1⟩:=Cr W0;let⟨W2,fW,b2,z2,C2⟩:=yj W1 (jK jU e) (jK jU g) (jK jU x) (jK jV t) (jC dN 0 0) (jC dN 0 0);rw[z0]at C1 z1;rw[z1]at C2 z2;have B2:=ai (aj (aj b0 b1) b2);go_in
 go_wp21
 rw[<-cT,<-fT,<-fW]
 go_loopw[4](λiv wr=>∃(k:Nat)(M:List aB)(Qk:List dV)(po:OA)(co:Nat),k<=n/\iv=jK jV k/\Le M k/\O (jT k ss=M)/\O (YB wr (U (Q w)) [jK jU e,jK jU g,jK jU x,jK jV t,jC p n c,jC q m d] [jK jU e,jK jU g,jK jU x,jK jV t,jC po k co,jC dN 0 0])/\O (fh (U (Q w)+1+1+1) wr (jC po k co) M Qk)/\O (Bw w wr)/\O (U (Q w)+1+1+1<=U (Q wr))) (λiv _=>n-(jN (intOf iv)))
 exact⟨0,[],[],dN,0,de _,rfl,rfl,(by show _=_;simp),(show YB W2 (U (Q w)) [jK jU e,jK jU g,jK jU x,jK jV t,jC p n c,jC q m d] [jK jU e,jK jU g,jK jU x,jK jV t,jC dN 0 0,jC dN 0 0]from⟨(C0.H b1).H b2,C1.H b2,C2⟩),fh.nil _ _,B2,(by show _<=_;omega)⟩;{
 obtain⟨k,M,Qk,po,co,hk,rfl,eM,hM,hY,Cj,aC,BQ⟩:=hrel;have zr:=ae BQ;have k0:=hY.1.cells;by_cases aH:k<n;{
 have dm:=cM k n;obtain⟨s,hs⟩:∃s,ss[k]?=Y s:=⟨_,bN (ae en▸aH)⟩;have E1:=ai (by rw[rD,hs,ae hM];rfl:jT (k+1) ss=M++[s]);let⟨JS,Oy⟩:=ae ig s (bq hs);obtain⟨b,o,u,rfl,c0,c1,c2,hu⟩:=nO.get HR.1 hs;obtain⟨pu,cu,rfl,Er⟩:=hu;have RU:=ai (show qI w (jC pu (J s.2.2) cu) s.2.2 from⟨pu,cu,rfl,Er⟩);let⟨nu,enu⟩:=cg (J s.2.2);rw[ae enu]at c2 RU JS;obtain⟨V1,xY,bv1,zv1,CV,-⟩:=cR wr #[jK jU s.1,jK jV s.2.1,jC pu nu cu] 148;let⟨VC,BV⟩:=aQ CV bv1;have i0:=aq c0 aC;have i1:=aq c1 aC;have i2:=aq c2 aC
 go_wp21
 rw[<-xY];let⟨W,br⟩:=aF V1.drew;have bM:=kH br;let⟨BA,X⟩:=aQ (bD (U (Q W)) W) (λ(v:G)(V:Bw W v)=>aE (aE (aq (VC.1 0 _ rfl) (aj bM V)) (aE (aq (VC.1 1 _ rfl) (aj bM V)) (aq (VC.1 2 _ rfl) (aj bM V)))) (aE (YB.T hY (cG (aj (aj (ae BV) bM) V)) al) (aE (fh.T Cj (cG (aj (aj (ae BV) bM) V))) (aE (aj (ae aC) (aj (aj (ae BV) bM) V)) (aj (aj (ae BV) bM) V)))));have zA:=bM.size;refine VE ?_;refine bP1 13 (S:=λw'=>(I w' ⟨U (Q wr),0,dN⟩=Y (jK jU s.1)/\I w' ⟨U (Q wr),1,dN⟩=Y (jK jV s.2.1)/\I w' ⟨U (Q wr),2,dN⟩=Y (jC pu nu cu))/\I w' ⟨U (Q w)+1+1,4,dN⟩=Y (jC po k co)) (by rw[<-br];exact⟨(ae X W db).1,(ae X W db).2.1.2.2.1.1 4 _ rfl⟩) (λhS=>?_);rw[<-br]at hS⊢;refine tED 0 1 2 3 hS ?_;refine tED 4 5 6 7 hS ?_;refine D5 8 (λKK hK=>?_);refine ju (ey8 enu (RU.H (ae X W BA).2.2.2.1) JS Oy) ?_;rintro r v1⟨pa,ca,rfl,oa,km⟩;refine⟨_,rfl,?_⟩;let⟨B1,OA⟩:=aQ km oa;have z1a:=km.size;refine JA hK ⟨(ae X v1 B1).1,(ae X v1 B1).2.1.2.2.1.1 4 _ rfl⟩ λhS=>?_;refine tEo 9 hS ?_;refine D5 10 (λKK hK=>?_);go_simp;obtain⟨Z,hZ,bZ,zZ,CZ,-⟩:=cR v1 #[jK jU s.1,jK jV s.2.1,jC pa nu ca] 148;rw[<-hZ];let⟨B2,FB,TZ⟩:=gC (aj B1 bZ) CZ (nF.T OA (cG bZ));refine JA hK ⟨(ae X Z B2).1,(ae X Z B2).2.1.2.2.1.1 4 _ rfl⟩ λhS=>?_;obtain⟨-,YZ,SZ,bwZ,brZ⟩:=ae X Z B2;have hlz:J (M.zip Qk)=k:=by rw[VN,SZ.len,ae eM];simp
 have H4:=gJ YZ SZ bwZ brZ;refine D5 11 (λKK hK=>?_);refine aR1 aY aY is 3 underlying41 HI.1.1 HI.1.2.1 HI.1.2.2.1 HI.1.2.2.2 rfl bf (ai hlz) aY SZ.row (U (Q v1)) (s,jC pa nu ca) (cs:=[jK jU s.1,jK jV s.2.1,jC pa nu ca]) aY rfl rfl (λj u hu=>FB.1 j u hu) (λu hu=>by simp at hu;obtain rfl|rfl|rfl:=hu<;>rfl) (λw' hf x c hx=>hx) af af af ?_;intro p' c' w9 Gv qm f9 _;have MZ:=ai (YB.T H4.1 f9 bf);have S9:=ai (fh.snoc H4.2.1 f9 (nF.h TZ af:nF (U (Q w)+1+1+1) Z _ _) (λj Q' b' hq hb e2=>by have h1:=(TZ.lt b' e2).1;obtain⟨s',vk⟩:∃s',M[j]?=Y s':=⟨_,bN (Cj.len▸(bH.1 hq).1)⟩;have h2:=((Cj.vD j s' Q' vk hq).lt b' hb).2;omega) Gv)
 have B9:=ai (H4.2.2.1.grown qm af (λb' e=>aM (H4.2.1.row.lt b' e).1));have qX:∀b',jB (Value.slice po k co)=Y b'->b'≠U (Q wr):=λb' e=>by have:=(Cj.row.lt b' e).2;omega
 have kX:=qm.block (U (Q wr)) af (λe=>qX _ e.C rfl);have z9:=qm.size;refine JA hK ⟨⟨(gG kX _).Z hS.1.1,(gG kX _).Z hS.1.2.1,(gG kX _).Z hS.1.2.2⟩,MZ.2.2.1.1 4 _ rfl⟩ λhS=>?_;refine tEo 12 hS ?_;refine D5 13 (λKK hK=>?_);have y4:=MZ.2.2.1.1 4 _ rfl;have yf:=MZ.2.2.1.2;go_simp;let⟨Y10,QF⟩:=YB.set MZ 4 al (jC p' (k+1) c');refine oGX hK (aN1 (AJ ?_));have KW:=gJ Y10 (S9.T QF) (B9.setCell (p:=⟨U (Q w)+1+1,4,dN⟩) (by show U (Q w)<=U (Q w)+1+1;omega) (jC p' (k+1) c')) QF.1;go_wp2;go_roundw;exact⟨k+1,_,_,p',c',af,by go_num,ai (by rw[fe,ae eM];rfl),E1,KW.1,KW.2.1,KW.2.2.1,ai (aM KW.2.2.2)⟩;exact dy};{
 have dm:=ga k n;obtain rfl:k=n:=af;have e1:=ae hM;rw[nZ (by rw[ae en];omega)]at e1;subst e1
 go_wp21
 go_loopw[6](λiv Yb=>∃(j:Nat)(N:List au)(qo:OA)(dx:Nat),j<=m/\iv=jK jV j/\Le N j/\O (jT j ns=N)/\O (YB Yb (U (Q w)) [jK jU e,jK jU g,jK jU x,jK jV t,jC p k c,jC q m d] [jK jU e,jK jU g,jK jU x,jK jV t,jC po k co,jC qo j dx])/\O (fh (U (Q w)+1+1+1) Yb (jC po k co) ss Qk)/\O (du (U (Q w)) (U (Q w)+1+1+1) Yb (jC qo j dx) N)/\O (Bw w Yb)/\O (U (Q w)+1+1+1<=U (Q Yb))) (λiv _=>m-(jN (intOf iv)))
 exact⟨0,[],dN,0,de _,rfl,rfl,(by show _=_;simp),hY,Cj,RT.nil _ _ _ _ _,aC,BQ⟩;{
 obtain⟨j,N,qo,dx,hj,rfl,eN,hNt,hY,Cj,DE,aC,BQ⟩:=hrel;have zr:=ae BQ;have k0:=hY.1.cells;by_cases Gx:j<m;{
 have bl5:=cM j m;obtain⟨nd,hx⟩:∃nd,ns[j]?=Y nd:=⟨_,bN (ae em▸Gx)⟩;have E1:=ai (by rw[rD,hx,ae hNt];rfl:jT (j+1) ns=N++[nd]);let⟨l0,l1,l4,l7⟩:=ae oW nd (bq hx);obtain⟨b,o,rfl,hA⟩:=HR.2.at (by rw[ae em];omega);let⟨P0,P1,P4,P7,hA⟩:=hA j nd hx;obtain⟨p0,GW,en0,-⟩:=id hA.r0;obtain⟨p1,Uc,uW,-⟩:=id hA.r1;obtain⟨p4,c4',en4,-⟩:=id hA.r4;obtain⟨p7,c7',en7,-⟩:=id hA.r7;subst en0 uW en4 en7;let⟨n0,f0⟩:=cg (J nd.A);let⟨n1,f1⟩:=cg (J nd.V);let⟨n4,f4⟩:=cg (J nd.y);let⟨n7,f7⟩:=cg (J nd.X);rw[ae f0,ae f1,ae f4,ae f7]at hA;rw[ae f0]at l0;rw[ae f1]at l1;rw[ae f4]at l4;rw[ae f7]at l7;let⟨SS,HRd⟩:=aQ (λ(v:G)(out:List dV)(hy:YB v (U (Q w)) [jK jU e,jK jU g,jK jU x,jK jV t,jC p k c,jC (Y ⟨b,o,dN⟩) m d] out)(V:Bw w v)=>aE (hy.1.1.1 5 _ rfl) (aE (aq hA.c0 V) (aE (aq hA.c1 V) (aE (aq hA.c2 V) (aE (aq hA.c3 V) (aE (aq hA.c4 V) (aE (aq hA.c5 V) (aE (aq hA.c6 V) (aq hA.c7 V))))))))) (λ(v:G)(V:Bw w v)=>aE (hA.r0.H V) (aE (hA.r1.H V) (aE (hA.r4.H V) (hA.r7.H V))))
 go_wp21
 let⟨W,br⟩:=aF wr.drew;have bM:=kH br;let⟨BA,X⟩:=aQ (bD (U (Q W)) W) (λ(v:G)(V:Bw W v)=>aE (ae SS v _ (YB.T hY (cG (aj bM V)) al) (aj (ae aC) (aj bM V))) (aE (YB.T hY (cG (aj bM V)) al) (aE (fh.T Cj (cG (aj bM V))) (aE (du.T DE (cG (aj bM V))) (aj (ae aC) (aj bM V))))));have zA:=bM.size;refine VE ?_;refine bP1 11 (S:=λw'=>(I w' ⟨U (Q w),5,dN⟩=Y (jC (Y ⟨b,o,dN⟩) m d)/\I w' ⟨b,o+j*8,dN⟩=Y (jC p0 n0 GW)/\I w' ⟨b,o+j*8+1,dN⟩=Y (jC p1 n1 Uc)/\I w' ⟨b,o+j*8+2,dN⟩=Y (jK jU nd.D)/\I w' ⟨b,o+j*8+3,dN⟩=Y (jK jV nd.M)/\I w' ⟨b,o+j*8+4,dN⟩=Y (jC p4 n4 c4')/\I w' ⟨b,o+j*8+5,dN⟩=Y (jK jU nd.P)/\I w' ⟨b,o+j*8+6,dN⟩=Y (jK jU nd.F)/\I w' ⟨b,o+j*8+7,dN⟩=Y (jC p7 n7 c7'))/\I w' ⟨U (Q w)+1+1,5,dN⟩=Y (jC qo j dx)) (by rw[<-br];exact⟨(ae X W db).1,(ae X W db).2.1.2.2.1.1 5 _ rfl⟩) (λhS=>?_);rw[<-br]at hS⊢;refine tED 0 1 2 3 hS ?_;refine tEn 4 hS ?_;refine tEn 5 hS ?_;refine tEn 6 hS ?_;refine D5 7 (λKK hK=>?_);refine Jr aY aY aY (λ_=>(λ(vs:iA)(w:G)=>show(callFunc 113 vs).run dG w=.ok (.enter 113 vs) w by kernel_rfl) _ _) (eM4 f0 f1 f4 f7 (ae HRd W (ae X W BA).2.2.2.2).1 (ae HRd W (ae X W BA).2.2.2.2).2.1 (ae HRd W (ae X W BA).2.2.2.2).2.2.1 (ae HRd W (ae X W BA).2.2.2.2).2.2.2 l0 l1 l4 l7) ?_;rintro r v1⟨q0,d0,q1,d1,q4,d4,q7,d7,rfl,t0,t1,t4,t7,km⟩;refine⟨_,rfl,?_⟩;have B1:=ai km;have OA:=gJ (t0.h (B':=U (Q w)) (by have:=aC.size;have:=BA.size;omega)) (t1.h (B':=U (Q w)) (by have:=aC.size;have:=BA.size;omega)) (t4.h (B':=U (Q w)) (by have:=aC.size;have:=BA.size;omega)) (t7.h (B':=U (Q w)) (by have:=aC.size;have:=BA.size;omega));have z1a:=km.size;refine JA hK ⟨(ae X v1 B1).1,(ae X v1 B1).2.1.2.2.1.1 5 _ rfl⟩ λhS=>?_;refine D5 8 (λKK hK=>?_);go_simp;obtain⟨Z,hZ,bZ,zZ,CZ,-⟩:=cR v1 #[jC q0 n0 d0,jC q1 n1 d1,jK jU nd.D,jK jV nd.M,jC q4 n4 d4,jK jU nd.P,jK jU nd.F,jC q7 n7 d7] 149;rw[<-hZ];have B2:=ai (aj B1 bZ);have TZ:=gJ (OA.1.T (cG bZ)) (OA.2.1.T (cG bZ)) (OA.2.2.1.T (cG bZ)) (OA.2.2.2.T (cG bZ));refine JA hK ⟨(ae X Z B2).1,(ae X Z B2).2.1.2.2.1.1 5 _ rfl⟩ λhS=>?_;obtain⟨-,YZ,SZ,NZ,bwZ⟩:=ae X Z B2;have H4:=gJ YZ SZ NZ bwZ;refine D5 9 (λKK hK=>?_);refine aR1 aY aY iN 8 underlying42 HI.2.1 HI.2.2.1 HI.2.2.2.1 HI.2.2.2.2 rfl bf eN aY NZ (U (Q v1)) nd (cs:=[jC q0 n0 d0,jC q1 n1 d1,jK jU nd.D,jK jV nd.M,jC q4 n4 d4,jK jU nd.P,jK jU nd.F,jC q7 n7 d7]) aY ⟨_,_,_,_,rfl,TZ.1,TZ.2.1,TZ.2.2.1,TZ.2.2.2⟩ rfl (λj u hu=>CZ.1 j u hu) (λu hu=>by simp at hu;obtain rfl|rfl|rfl|rfl|rfl|rfl|rfl|rfl:=hu<;>rfl) (λw' hf=>AE.T hf bf bf) af af af ?_;intro p' c' w9 Gv qm f9 _;have MZ:=ai (YB.T H4.1 f9 bf);have S9:=bG (H4.2.1.T f9) Gv;have B9:=ai (H4.2.2.2.grown qm af (λb' e=>aM (H4.2.2.1.lt b' e).1));have z9:=qm.size;refine JA hK ⟨SS w9 _ MZ B9,MZ.2.2.1.1 5 _ rfl⟩ λhS=>?_;refine tEo 10 hS ?_;refine D5 11 (λKK hK=>?_);have yf:=MZ.2.2.1.2;go_simp;let⟨Y10,QF⟩:=YB.set MZ 5 al (jC p' (j+1) c');have KW:=nK Y10 (S9.1.T QF) (du.T S9.2 QF) (B9.setCell (p:=⟨U (Q w)+1+1,5,dN⟩) (by show U (Q w)<=U (Q w)+1+1;omega) (jC p' (j+1) c')) QF.1;refine oGX hK (aN1 (AJ ?_));go_wp2;go_roundw;exact⟨j+1,_,p',c',af,by go_num,ai (by rw[fe,ae eN];rfl),E1,KW.1,KW.2.1,KW.2.2.1,KW.2.2.2.1,ai (aM KW.2.2.2.2)⟩;exact dy};{
 have bl5:=ga j m;obtain rfl:j=m:=af;have e2:=ae hNt;rw[nZ (by rw[ae em];omega)]at e2;subst e2;let⟨y0,y1,y2,y3,y4,y5,yf⟩:=hY.2.2.cells;let⟨r0,r1,r2,r3,r4,r5,rf⟩:=hY.2.1.cells;have hf:Fr [44] wr (gL wr (U (Q w)+1) (jK jU e) (jK jU g) (jK jU x) (jK jV t) (jC po k co) (jC qo j dx)):=by obtain⟨-,cur,ht⟩:=hY.2.1;exact xB ht
 have HF:=bG (vE (w:=wr) (U (Q w)+1) (jK jU e) (jK jU g) (jK jU x) (jK jV t) (jC po k co) (jC qo j dx)) hf;go_wp2;refine cX (v:=cO e g x t (jC po k co) (jC qo j dx)) (by simp[results,results56,go_sem,r0,r1,r2,r3,r4,r5]) rfl ?_;exact⟨po,co,qo,dx,rfl,⟨Qk,(Cj.T HF.2).h af⟩,RT.h (du.T DE HF.2) af,aC.Z (HF.1.h af)⟩}}}}
theorem Fp{v:G}(h:Bw w v:=by repeat(first|exact bD _ _|assumption|refine aj ?_ cY|refine aj ?_ (by assumption))):Bw w v:=h
def SzP(n:Nat)(L:Int)(w:G)(e:Ending)(w':G):Prop:=(∃R:Int,e=dR (.I R)/\(R=-1\/(0<=R/\R+n=L)))/\Bw w w'
def nE(f:Nat)(V:dV)(n:Nat)(w:G):Prop:=∀(v:G)(L:Int),Bw w v->0<=L->L<=2^20->dQ dG f #[V,.I L] v (SzP n L v)
theorem SzP.one{L R:Int}(h:R=-1\/(0<=R/\R+n=L))(b:Bw w w'):SzP n L w (dR (.I R)) w':=⟨⟨R,rfl,h⟩,b⟩
theorem Nx(i:n<=maxLen):nE 20 (.S p n c) n w:=λv L _ m j=>
 (aQ5 (p:=p) (cap:=c) (w:=v) i m j).h λe o h=>by rw[h.1,h.2];exact .one (by unfold D7;split<;>omega) db
theorem bS1(i:n<=maxLen):nE 151 (.S p n c) n w:=λv L _ m j=>by
 unfold maxLen at i;by_cases h:L-n<0
 all_goals(
  go_enter func151,ntmps151;go_wp2;go_ret;exact .one af db)
theorem tt0{v:G}{o:Obj}(i:Below (U (Q (jA v o))) (jA v o) w):w.heap[U (Q v)]?=o:=(i.block _ (by simp)).Z (by show(v.heap.push _)[U (Q v)]?=_;simp)
theorem tt1{o:Obj}(h:w.heap[b]?=o)(i:Bw w w'):w'.heap[b]?=o:=(i.block _ (uS h)).Z h
theorem Nw{p:Prop}(h:p:=by
  intro v L hw h0 h1;go_in
  repeat(
   go_wp21
   first
    |(refine LJ (x1 _ _ Fp af af) ?_;clear x1)
    |(refine LJ (x2 _ _ Fp af af) ?_;clear x2)
    |(refine LJ (x3 _ _ Fp af af) ?_;clear x3)
    |(refine LJ (x4 _ _ Fp af af) ?_;clear x4)
   rintro _ _⟨⟨R,rfl,hR⟩,hb⟩;obtain rfl|⟨hR,hs⟩:=hR;{go_wp2;go_ret;exact .one (.L rfl) Fp};have hn:¬R<0:=af
   first
    |have TT:=ai (tt1 TT hb)
    |have TT:=ai (tt0 hb)
   have n0:=cI TT 0;have n1:=cI TT 1;have n2:=cI TT 2;have n3:=cI TT 3;have n4:=cI TT 4;have n5:=cI TT 5;have n6:=cI TT 6;have n7:=cI TT 7;have n8:=cI TT 8;have n9:=cI TT 9;have na:=cI TT 10;have nb:=cI TT 11;have nc:=cI TT 12;simp at n0 n1 n2 n3 n4 n5 n6 n7 n8 n9 na nb nc)
  go_wp2;go_ret;exact .one (.R af) Fp):p:=h
theorem szL{p:Prop}(h:p:=by
  intro v L hw h0 h1;unfold maxLen at hn;by_cases Wm:L-n<0;{go_in;go_wp2;go_ret;exact .one (.L rfl) Fp};{
 obtain⟨L0,eL0⟩:∃L0:Int,L-n=L0:=⟨_,rfl⟩;have hL0:¬L0<0:=af;have wL:IntKind.i64.wrap L0=L0:=nW _ af;have vK:n<=1048576:=af;have hL1:L0<=1048576:=af;have EL:=ai eL0;go_in
 go_wp21
 clear eL0
 go_loopw[1,5](λlv iv wr=>∃(k:Nat)(M:Int),k<=n/\iv=.I k/\lv=.I M/\0<=M/\M<=1048576/\O (M+n+S k=L)/\Bw v wr) (λ_ iv _=>n-(intOf iv).toNat)
 {exact⟨0,L0,de _,rfl,rfl,af,af,(by show _=_;rw[z0];have:=ae EL;omega),bD _ _⟩};{
 obtain⟨k,M,hk,rfl,rfl,hM,hM2,hs,hb⟩:=hrel;by_cases aH:k<n;{
 have dm:=cM k n;obtain⟨b,o,a,rfl,ha,H⟩:=ae xE _ (aj hw hb) k aH;have HA:=ai ha;clear ha
 first
  |obtain⟨v0,v1,v2,v3,v4,v5,v6,v7,c0,c1,c2,c3,c4,c5,c6,c7,hx⟩:=H
  |obtain⟨v0,v1,v2,c0,c1,c2,hx⟩:=H
  |obtain⟨v0,v1,c0,c1,hx⟩:=H
 go_wp21
 refine LJ (hx _ _ Fp hM hM2) ?_;rintro _ w2⟨⟨R,rfl,hR⟩,aA⟩;have b2:=aj hb aA;clear aA;obtain rfl|⟨hR,Al⟩:=hR;{go_wp2;go_ret;exact .one (.L rfl) b2};{
 have tQ:¬R<0:=af;have Th:R<=1048576:=af;have e2:O (R+n+S (k+1)=L):=by show _=_;have:=ae hs;have:=ae HA;omega
 clear Al;go_wp2;go_roundw;{exact⟨k+1,R,af,by go_num,rfl,hR,Th,e2,b2⟩};{simp[intOf];omega}}};{have dm:=ga k n;obtain rfl:k=n:=af;go_wp2;go_ret;exact .one (.R ⟨hM,aM (ae hs)⟩) hb}}}):p:=h
theorem dm6(x1:nE 20 (.S p n c) n w):nE 216 (jP #[.I K,.S p n c]) n w:=Nw
variable {S:Nat->Nat}
theorem dm7(hn:n<=maxLen)(z0:S 0=0)(xE:O (∀u,Bw w u->∀k,k<n->∃b o a,p=(Ad b o)/\S (k+1)=S k+a/\∃v0 v1,I u (Ad b (o+k*2))=Y v0/\I u (Ad b (o+k*2+1))=Y v1/\nE 216 (jP #[v0,v1]) a w)):nE 150 (.S p n c) (n+S n) w:=szL
theorem dl9(hn:n<=maxLen)(z0:S 0=0)(xE:O (∀u,Bw w u->∀k,k<n->∃b o a,p=(Ad b o)/\S (k+1)=S k+a/\∃v0 v1 v2,I u (Ad b (o+k*3))=Y v0/\I u (Ad b (o+k*3+1))=Y v1/\I u (Ad b (o+k*3+2))=Y v2/\nE 86 (jP #[v0,v1,v2]) a w)):nE 46 (.S p n c) (n+S n) w:=szL
theorem dm4(hn:n<=maxLen)(z0:S 0=0)(xE:O (∀u,Bw w u->∀k,k<n->∃b o a,p=(Ad b o)/\S (k+1)=S k+a/\∃v0 v1 v2 v3 v4 v5 v6 v7,I u (Ad b (o+k*8))=Y v0/\I u (Ad b (o+k*8+1))=Y v1/\I u (Ad b (o+k*8+2))=Y v2/\I u (Ad b (o+k*8+3))=Y v3/\I u (Ad b (o+k*8+4))=Y v4/\I u (Ad b (o+k*8+5))=Y v5/\I u (Ad b (o+k*8+6))=Y v6/\I u (Ad b (o+k*8+7))=Y v7/\nE 87 (jP #[v0,v1,v2,v3,v4,v5,v6,v7]) a w)):nE 47 (.S p n c) (n+S n) w:=szL
theorem dl8{D:Int}(x1:nE 150 (.S p n c) N w):nE 86 (jP #[.U iI,.I D,.S p n c]) N w:=Nw
theorem dm3{s:OA}{e l f:Nat}{iO M E:Int}(x1:nE 20 (.S p n c) n w)(x2:nE 20 (.S q m d) m w)(x3:nE 151 (.S r k e) k w)(x4:nE 151 (.S s l f) l w):nE 87 (jP #[.S p n c,.S q m d,.U iO,.I M,.S r k e,.U E,.U iG,.S s l f]) (n+m+k+l) w:=Nw
theorem dl7{M:Nat}(x1:nE 46 (.S p n c) N w)(x2:nE 47 (.S q m d) M w):nE 19 (cO e g x t (.S p n c) (.S q m d)) (N+M) w:=Nw
variable {s:Int}
theorem aQ4(x1:nE 20 (.S p n c) n w):nE 45 (jP #[.S p n c,.I s]) n w:=Nw
theorem dm9{e:Nat}{u:Int}(x1:nE 45 (jP #[.S p n c,.I s]) n w)(x2:nE 45 (jP #[.S q m d,.I t]) m w)(x3:nE 45 (jP #[.S r k e,.I u]) k w):nE 18 (pR (.S p n c) s (.S q m d) t (.S r k e) u) (n+m+k) w:=Nw
variable {l:List Ev}
theorem dm8(h:qI w v l)(q:J l<=maxLen)(he:∀y∈l,J y.2<=maxLen):∃p c,v=.S p (J l) c/\nE 150 (.S p (J l) c) (J l+jy (λe:Ev=>J e.2) l) w:=by
 obtain⟨p,c,rfl,-⟩:=id h;have:=dm7 (p:=p) (c:=c) (S:=λk=>jy (λe:Ev=>J e.2) (jT k l)) q (aQ7 _ _) (ai λu s k r=>by have i:=bN r;let⟨b,o,iU,e,D,B,j⟩:=(h.H s).get i;obtain⟨E,M,m,rfl,x⟩:=j.fq;cases ae x;exact⟨b,o,_,e,ap8 _ i,_,_,D,B,dm6 (Nx (he _ (bq i)))⟩)
 rw[wS]at this;exact⟨p,c,rfl,this⟩
theorem dm1{l:List aB}(h:nO w v l)(q:J l<=maxLen)(he:∀y∈l,J y.2.2<=maxLen/\∀e∈y.2.2,J e.2<=maxLen):∃p c,v=.S p (J l) c/\nE 46 (.S p (J l) c) (J l+jy Ld l) w:=by
 obtain⟨p,c,rfl,-⟩:=id h;have:=dl9 (p:=p) (c:=c) (S:=λk=>jy Ld (jT k l)) q (aQ7 _ _) (ai λu j k r=>by have i:=bN r;have hm:=he _ (bq i);let⟨b,o,iU,e,D,B,s,m⟩:=h.get i;obtain⟨E,M,rfl,x⟩:=dm8 m hm.1 hm.2;exact⟨b,o,_,e,ap8 _ i,_,_,_,aq D j,aq B j,aq s j,dl8 x⟩)
 rw[wS]at this;exact⟨p,c,rfl,this⟩
theorem dm5{l:List au}(h:iw w v l)(m:J l<=maxLen)(he:∀y∈l,J y.A<=maxLen/\J y.V<=maxLen/\J y.y<=maxLen/\J y.X<=maxLen):∃p c,v=.S p (J l) c/\nE 47 (.S p (J l) c) (J l+jy Lg l) w:=by
 obtain⟨p,c,rfl,-⟩:=id h;have:=dm4 (p:=p) (c:=c) (S:=λk=>jy Lg (jT k l)) m (aQ7 _ _) (ai λu r k q=>by have j:=bN q;have hm:=he _ (bq j);let⟨b,o,e,i⟩:=(h.H r).at af;let⟨P,V,H,iU,i⟩:=i k _ j;obtain⟨pp,pc,pn,rfl,D⟩:=i.r0.fq;obtain⟨vp,X,W,rfl,B⟩:=i.r1.fq;obtain⟨hp,hc,hn,rfl,x⟩:=i.r4.fq;obtain⟨Z,uc,un,rfl,s⟩:=i.r7.fq;have R:=ae D;have N:=ae B;have M:=ae x;have E:=ae s;subst R N M E;exact⟨b,o,_,e,ap8 _ j,_,_,_,_,_,_,_,_,i.c0,i.c1,i.c2,i.c3,i.c4,i.c5,i.c6,i.c7,dm3 (Nx hm.1) (Nx hm.2.1) (bS1 hm.2.2.1) (bS1 hm.2.2.2)⟩)
 rw[wS]at this;exact⟨p,c,rfl,this⟩
theorem tt2{v:G}{a b:Obj}(i:Below (U (Q ((v.alloc a).alloc b))) ((v.alloc a).alloc b) w):w.heap[U (Q v)]?=a:=tt0 (aj cY i)
def qy(f:Nat)(V iU:dV)(w:G):Prop:=∀v:G,Bw w v->dQ dG f #[V,iU] v λr w'=>r=dR (jO dY)/\Bw v w'
theorem MA{p:Prop}(h:p:=by
  intro v hw;go_in
  repeat(
   go_wp21
   first
    |(refine LJ (x1 _ Fp) ?_;clear x1)
    |(refine LJ (x2 _ Fp) ?_;clear x2)
    |(refine LJ (x3 _ Fp) ?_;clear x3)
    |(refine LJ (x4 _ Fp) ?_;clear x4)
   rintro _ _⟨rfl,hb⟩
   first
    |(have TA:=ai (tt1 TA hb);have TB:=ai (tt1 TB hb))
    |(have TA:=ai (tt2 hb);have TB:=ai (tt0 hb))
   have n0:=cI TA 0;have n1:=cI TA 1;have n2:=cI TA 2;have n3:=cI TA 3;have n4:=cI TA 4;have n5:=cI TA 5;have n6:=cI TA 6;have n7:=cI TA 7;have n8:=cI TA 8;have n9:=cI TA 9;have na:=cI TA 10;have nb:=cI TA 11;have nc:=cI TA 12;have m0:=cI TB 0;have m1:=cI TB 1;have m2:=cI TB 2;have m3:=cI TB 3;have m4:=cI TB 4;have m5:=cI TB 5;have m6:=cI TB 6;have m7:=cI TB 7;have m8:=cI TB 8;have m9:=cI TB 9;have ma:=cI TB 10;have mb:=cI TB 11;have mc:=cI TB 12;simp at n0 n1 n2 n3 n4 n5 n6 n7 n8 n9 na nb nc m0 m1 m2 m3 m4 m5 m6 m7 m8 m9 ma mb mc)
  go_wp2;go_ret;exact⟨rfl,Fp⟩):p:=h
theorem bv2(x1:qy 32 (.S p n c) (.S q n d) w):qy 76 (jP #[.S p n c,.I s]) (jP #[.S q n d,.I s]) w:=MA
theorem eB8{o m j i:OA}{r q:Nat}{s0 s1 s2:Int}(x1:qy 76 (jP #[.S p0 n0 c0,.I s0]) (jP #[.S m n0 q,.I s0]) w)(x2:qy 76 (jP #[.S p1 n1 c1,.I s1]) (jP #[.S j n1 d1,.I s1]) w)(x3:qy 76 (jP #[.S o n2 r,.I s2]) (jP #[.S i n2 d2,.I s2]) w):qy 30 (pR (.S p0 n0 c0) s0 (.S p1 n1 c1) s1 (.S o n2 r) s2) (pR (.S m n0 q) s0 (.S j n1 d1) s1 (.S i n2 d2) s2) w:=MA
theorem eB7(x1:qy 32 (.S p n c) (.S q n d) w):qy 79 (jP #[.I K,.S p n c]) (jP #[.I K,.S q n d]) w:=MA
theorem eA6{D:Int}(x1:qy 34 (.S p n c) (.S q n d) w):qy 146 (jP #[.U iI,.I D,.S p n c]) (jP #[.U iI,.I D,.S q n d]) w:=MA
theorem eB5(x1:qy 32 (.S pp n1 a1) (.S qp n1 d1) w)(x2:qy 32 (.S pv n2 a2) (.S qv n2 d2) w)(x3:qy 215 (.S ph n3 a3) (.S qh n3 d3) w)(x4:qy 215 (.S pu n4 a4) (.S qu n4 d4) w):qy 147 (Ee (.S pp n1 a1) (.S pv n2 a2) ow mo (.S ph n3 a3) ep ge (.S pu n4 a4)) (Ee (.S qp n1 d1) (.S qv n2 d2) ow mo (.S qh n3 d3) ep ge (.S qu n4 d4)) w:=MA
theorem ez7{i q':OA}{o j:Nat}(x1:qy 77 (.S p n c) (.S i n o) w)(x2:qy 78 (.S q m d) (.S q' m j) w):qy 31 (cO e g x t (.S p n c) (.S q m d)) (cO e g x t (.S i n o) (.S q' m j)) w:=MA
theorem cG3{l:LI}(N:Le l n)(m:kI w (.S p n c) l)(j:kI w (.S q n d) l)(hn:Mg n):dQ dG 215 #[.S p n c,.S q n d] w (Rb (jO dY) w):=by
 have u:=ai λ(x:G)(s:Bw w x)=>aE (m.H s) (j.H s);go_in;go_wp2
 go_loopw[5](λi wr=>∃k:Nat,k<=n/\i=.I k/\Bw w wr) (pT n)
 exact⟨0,de _,rfl,bD _ _⟩;{
 obtain⟨k,hk,rfl,r⟩:=hrel;by_cases R:k<n;{
 have Z:=cM k n;have fg:k<J l:=ae N▸R;have key:∀(p:OA)(c:Nat),kI wr (.S p n c) l->∃b o,p=(Ad b o)/\I wr (Ad b (o+k))=dU (jE l k 0):=λp c h=>by obtain⟨V,c',ev,B⟩:=h;obtain⟨rfl,-,-⟩:=mh ev;obtain h0|⟨b,o,m,j⟩:=B;{exact yy};{exact⟨b,o,m,j k fg⟩}
 obtain⟨b1,X,rfl,E⟩:=key p c (ae u _ r).1;obtain⟨b2,W,rfl,D⟩:=key q d (ae u _ r).2;let⟨y,M⟩:=bu (jE l k 0);rw[M]at E D;go_wp2
 go_quiet (fail)
 go_wp2;go_roundw;exact⟨k+1,af,by go_num,below_drewN r⟩;exact dy};{have fg:=ga k n;exact aV}}
theorem eB6(o:Le P n)(m:Rd w (.S p n c) P)(j:Rd w (.S q n d) P)(r:Mg n):Cp 79 #[jP #[.I K,.S p n c],jP #[.I K,.S q n d]] w (Rb (jO dY) w):=
 eB7 (λv i=>MB o (m.H i) (j.H i) af) w db
theorem bv3(en:Le l n)(h1:qI w (.S p n c) l)(h2:qI w (.S q n d) l)(hn:Mg n)(iW:O (∀y∈l,J y.2<=2^20)):dQ dG 34 #[.S p n c,.S q n d] w (Rb (jO dY) w):=by
 have HR:=ai λ(w':G)(hb:Bw w w')=>aE (h1.H hb) (h2.H hb);go_in
 go_wp21
 go_loopw[5](λi wr=>∃k:Nat,k<=n/\i=.I k/\Bw w wr) (pT n)
 exact⟨0,de _,rfl,bD _ _⟩;{
 obtain⟨k,hk,rfl,aC⟩:=hrel;by_cases aH:k<n;{
 have i1:=cM k n;have fg:k<J l:=ae en▸aH;let⟨y,V⟩:=qH fg;have dr:=ae iW y (bq V);obtain⟨K,P⟩:=y;have key:∀(p:OA)(c:Nat),qI wr (.S p n c) l->∃b o,p=(Ad b o)/\I wr (Ad b (o+k*2))=dI K/\∃u,I wr (Ad b (o+k*2+1))=Y u/\Rd wr u P:=λp c h=>by obtain⟨p',c',ev,hd⟩:=h;obtain⟨rfl,-,-⟩:=mh ev;obtain h0|⟨b,o,h1,h2⟩:=hd;{exact yy};{exact⟨b,o,h1,h2 k _ V⟩}
 obtain⟨X,N,rfl,z1,u1,B,s⟩:=key p c (ae HR _ aC).1;obtain⟨W,M,rfl,x1,u2,x2,j⟩:=key q d (ae HR _ aC).2;obtain⟨p1,c1,rfl,-⟩:=id s;obtain⟨p2,c2,rfl,-⟩:=id j;let⟨m,x⟩:=bu (J P);rw[x]at s j B x2;have hm:m<=2^20:=x▸dr;have EM:=ai x;have CE:=bG s j;have Z:=gJ z1 B x1 x2
 go_wp21
 refine fw (λw'=>I w' (Ad X (N+k*2))=dI K/\I w' (Ad X (N+k*2+1))=dS p1 m c1/\I w' (Ad W (M+k*2))=dI K/\I w' (Ad W (M+k*2+1))=dS p2 m c2) Z λhS=>?_;refine gr 0 1 2 3 4 5 6 7 hS ?_;refine fy 8 λKK hK=>?_;refine uG (eB6 EM (CE.1.H db.drew) (CE.2.H db.drew) hm) ?_;rintro r w2⟨rfl,aA⟩;refine fE ?_;have aR:Bw wr w2:=aj (bD (U (Q wr)) wr).drew aA;refine bS hK (by obtain⟨k0,k1,k2,k3⟩:=ae Z;exact⟨aq k0 aR,aq k1 aR,aq k2 aR,aq k3 aR⟩) λhS=>?_;exact ao2};{have fg:=ga k n;exact aV}}
theorem ez8{D:Int}{i:List Ev}(u:Le i n)(s:qI w (.S p n c) i)(r:qI w (.S q n d) i)(o:Mg n)(m:O (∀y∈i,J y.2<=2^20)):Cp 146 #[jP #[.U iI,.I D,.S p n c],jP #[.U iI,.I D,.S q n d]] w (Rb (jO dY) w):=
 eA6 (λv j=>bv3 u (s.H j) (r.H j) o m) w db
variable {l:List aB}
theorem ez9(en:Le l n)(h1:nO w (.S p n c) l)(h2:nO w (.S q n d) l)(hn:Mg n)(iW:O (∀y∈l,J y.2.2<=2^20/\∀e∈y.2.2,J e.2<=2^20)):dQ dG 77 #[.S p n c,.S q n d] w (Rb (jO dY) w):=by
 have HR:=ai λ(w':G)(hb:Bw w w')=>aE (h1.H hb) (h2.H hb);go_in
 go_wp21
 go_loopw[5](λi wr=>∃k:Nat,k<=n/\i=.I k/\Bw w wr) (pT n)
 exact⟨0,de _,rfl,bD _ _⟩;{
 obtain⟨k,hk,rfl,aC⟩:=hrel;by_cases aH:k<n;{
 have i1:=cM k n;have fg:k<J l:=ae en▸aH;let⟨y,Z⟩:=qH fg;have dr:=ae iW y (bq Z);obtain⟨M,D,iZ⟩:=y;have key:∀(p:OA)(c:Nat),nO wr (.S p n c) l->∃b o,p=(Ad b o)/\I wr (Ad b (o+k*3))=dU M/\I wr (Ad b (o+k*3+1))=dI D/\∃u,I wr (Ad b (o+k*3+2))=Y u/\qI wr u iZ:=λp c h=>by obtain⟨p',c',ev,hd⟩:=h;obtain⟨rfl,-,-⟩:=mh ev;obtain h0|⟨b,o,h1,h2⟩:=hd;{exact yy};{exact⟨b,o,h1,h2 k _ Z⟩}
 obtain⟨W,B,rfl,z1,z2,u1,X,s⟩:=key p c (ae HR _ aC).1;obtain⟨V,x,rfl,x1,x2,u2,x3,j⟩:=key q d (ae HR _ aC).2;obtain⟨p1,c1,rfl,-⟩:=id s;obtain⟨p2,c2,rfl,-⟩:=id j;let⟨m,N⟩:=bu (J iZ);rw[N]at s j X x3;have CE:=bG s j;have K0:=IV z1 z2 X x1 x2 x3
 go_wp21
 refine fw (λw'=>I w' (Ad W (B+k*3))=dU M/\I w' (Ad W (B+k*3+1))=dI D/\I w' (Ad W (B+k*3+2))=dS p1 m c1/\I w' (Ad V (x+k*3))=dU M/\I w' (Ad V (x+k*3+1))=dI D/\I w' (Ad V (x+k*3+2))=dS p2 m c2) K0 λhS=>?_;refine gr 0 1 2 3 4 5 6 7 hS ?_;refine fy 8 λKK hK=>?_;refine uG (ez8 N (CE.1.H mC) (CE.2.H mC) (N▸dr.1) dr.2) ?_;rintro r w2⟨rfl,aA⟩;refine fE ?_;have aR:Bw wr w2:=aj (bD (U (Q wr)) wr).drew aA;refine bS hK (by obtain⟨k0,k1,k2,k3,k4,k5⟩:=ae K0;exact⟨aq k0 aR,aq k1 aR,aq k2 aR,aq k3 aR,aq k4 aR,aq k5 aR⟩) λhS=>?_;exact ao2};{have fg:=ga k n;exact aV}}
theorem eB3{P V H iU:LI}(x:Le P n1)(u:Le V n2)(s:Le H n3)(r:Le iU n4) (m:Rd w (.S pp n1 a1) P/\Rd w (.S pv n2 a2) V/\kI w (.S ph n3 a3) H/\kI w (.S pu n4 a4) iU)(j:Rd w (.S qp n1 d1) P/\Rd w (.S qv n2 d2) V/\kI w (.S qh n3 d3) H/\kI w (.S qu n4 d4) iU)(B:Mg n1)(y:Mg n2)(q:Mg n3)(o:Mg n4):Cp 147 #[Ee (.S pp n1 a1) (.S pv n2 a2) ow mo (.S ph n3 a3) ep ge (.S pu n4 a4),Ee (.S qp n1 d1) (.S qv n2 d2) ow mo (.S qh n3 d3) ep ge (.S qu n4 d4)] w (Rb (jO dY) w):=
 eB5 (λv i=>MB x (m.1.H i) (j.1.H i) af) (λv i=>MB u (m.2.1.H i) (j.2.1.H i) af) (λv i=>cG3 s (m.2.2.1.H i) (j.2.2.1.H i) q) (λv i=>cG3 r (m.2.2.2.H i) (j.2.2.2.H i) o) w db
variable {l:List au}
theorem eB4(en:Le l n)(h1:iw w (.S p n c) l)(h2:iw w (.S q n d) l)(hn:Mg n)(iW:O (∀y∈l,J y.A<=2^20/\J y.V<=2^20/\J y.y<=2^20/\J y.X<=2^20)):dQ dG 78 #[.S p n c,.S q n d] w (Rb (jO dY) w):=by
 have HR:=ai λ(w':G)(hb:Bw w w')=>aE (h1.H hb) (h2.H hb);go_in
 go_wp21
 go_loopw[5](λi wr=>∃k:Nat,k<=n/\i=.I k/\Bw w wr) (pT n)
 exact⟨0,de _,rfl,bD _ _⟩;{
 obtain⟨k,hk,rfl,aC⟩:=hrel;by_cases aH:k<n;{
 have i1:=cM k n;have fg:k<J l:=ae en▸aH;let⟨y,hy⟩:=qH fg;have M:=ae iW y (bq hy);obtain⟨B,u,rfl,hA⟩:=(ae HR _ aC).1.at af;obtain⟨x,s,rfl,hB⟩:=(ae HR _ aC).2.at af;let⟨P1,V1,H1,U1,m⟩:=hA k y hy;let⟨P2,V2,H2,U2,j⟩:=hB k y hy;obtain⟨pp,a1,n1,rfl,e1⟩:=m.r0.fq;obtain⟨pv,a2,n2,rfl,e2⟩:=m.r1.fq;obtain⟨ph,a3,Z,rfl,e3⟩:=m.r4.fq;obtain⟨pu,a4,W,rfl,e4⟩:=m.r7.fq;obtain⟨qp,d1,n1',rfl,e1'⟩:=j.r0.fq;obtain⟨qv,d2,n2',rfl,e2'⟩:=j.r1.fq;obtain⟨qh,d3,X,rfl,e3'⟩:=j.r4.fq;obtain⟨qu,d4,V,rfl,e4'⟩:=j.r7.fq;cases(e1.C.Z e1':n1=n1');cases(e2.C.Z e2':n2=n2');cases(e3.C.Z e3':Z=X);cases(e4.C.Z e4':W=V);have N:=gJ m.r0 m.r1 m.r4 m.r7;have HB:=gJ j.r0 j.r1 j.r4 j.r7;obtain⟨z0,z1,z2,z3,z4,z5,z6,z7,-,-,-,-,-⟩:=m;obtain⟨x0,x1,x2,x3,x4,x5,x6,x7,-,-,-,-,-⟩:=j;obtain⟨ow,mo,ep,ge,g1,g2,g3,g4⟩:∃a b c d,y.D=a/\y.M=b/\y.P=c/\y.F=d:=⟨_,_,_,_,rfl,rfl,rfl,rfl⟩;rw[g1]at z2 x2;rw[g2]at z3 x3;rw[g3]at z5 x5;rw[g4]at z6 x6;have K0:=gJ z0 z1 z2 (aE z3 (aE z4 (aE z5 (aE z6 (aE z7 (aE x0 (aE x1 (aE x2 (aE x3 (aE x4 (aE x5 (aE x6 x7))))))))))))
 go_wp21
 refine fw (λw'=>I w' (Ad B (u+k*8))=dS pp n1 a1/\I w' (Ad B (u+k*8+1))=dS pv n2 a2/\I w' (Ad B (u+k*8+2))=dU ow/\I w' (Ad B (u+k*8+3))=dI mo/\I w' (Ad B (u+k*8+4))=dS ph Z a3/\I w' (Ad B (u+k*8+5))=dU ep/\I w' (Ad B (u+k*8+6))=dU ge/\I w' (Ad B (u+k*8+7))=dS pu W a4/\I w' (Ad x (s+k*8))=dS qp n1 d1/\I w' (Ad x (s+k*8+1))=dS qv n2 d2/\I w' (Ad x (s+k*8+2))=dU ow/\I w' (Ad x (s+k*8+3))=dI mo/\I w' (Ad x (s+k*8+4))=dS qh Z d3/\I w' (Ad x (s+k*8+5))=dU ep/\I w' (Ad x (s+k*8+6))=dU ge/\I w' (Ad x (s+k*8+7))=dS qu W d4) K0 λhS=>?_;refine gr 0 1 2 3 4 5 6 7 hS ?_;refine fy 8 λKK hK=>?_;refine uG (eB3 e1 e2 e3 e4 ⟨N.1.H mC,N.2.1.H mC,N.2.2.1.H mC,N.2.2.2.H mC⟩ ⟨HB.1.H mC,HB.2.1.H mC,HB.2.2.1.H mC,HB.2.2.2.H mC⟩ (ae e1▸M.1) (ae e2▸M.2.1) (ae e3▸M.2.2.1) (ae e4▸M.2.2.2)) ?_;rintro r w2⟨rfl,aA⟩;refine fE ?_;have aR:Bw wr w2:=aj (bD (U (Q wr)) wr).drew aA;refine bS hK (by obtain⟨k0,k1,k2,k3,k4,k5,k6,k7,k8,k9,ZH,ZG,k12,k13,k14,k15⟩:=ae K0;exact⟨aq k0 aR,aq k1 aR,aq k2 aR,aq k3 aR,aq k4 aR,aq k5 aR,aq k6 aR,aq k7 aR,aq k8 aR,aq k9 aR,aq ZH aR,aq ZG aR,aq k12 aR,aq k13 aR,aq k14 aR,aq k15 aR⟩) λhS=>?_;exact ao2};{have fg:=ga k n;exact aV}}
theorem ez6(e g x t:Int)(p q r q':OA)(c n d m u s:Nat)(ss:List aB)(ns:List au)(M:Le ss n)(N:Le ns m)(w:G)(h:nO w (.S p n c) ss)(D:iw w (.S q m d) ns)(E:nO w (.S r n u) ss)(R:iw w (.S q' m s) ns)(B:Mg n)(hm:Mg m)(o:O (∀y∈ss,J y.2.2<=2^20/\∀e∈y.2.2,J e.2<=2^20))(j:O (∀y∈ns,J y.A<=2^20/\J y.V<=2^20/\J y.y<=2^20/\J y.X<=2^20)):Cp 31 #[cO e g x t (.S p n c) (.S q m d),cO e g x t (.S r n u) (.S q' m s)] w (Rb (jO dY) w):=
 ez7 (λv i=>ez9 M (h.H i) (E.H i) B o) (λv i=>eB4 N (D.H i) (R.H i) hm j) w db
def XC(w:G)(x:LI)(b a:Nat)(l:List Lf):Prop:=∃p c,I w (Ad b a)=dS p (J x) c/\oz (.S p (J x) c) x l
abbrev rQ(w:G)(v:dV)(xs:List LI)(A:List Lf):Prop:=uC (XC w) 1 v xs A
variable {l:List Lf}
theorem XC.mk{x:LI}{a:Nat}{k:Int}(h:XC w x b a l)(hm:Mk w w' A k)(i:fk w A):XC w' x b a l:=by
 obtain⟨p,c,m,j⟩:=h;exact⟨p,c,hm.head i m,j⟩
theorem rQ.mk{k:Int}(h:rQ w v xs l)(hm:Mk w w' A k)(j:fk w A):rQ w' v xs l:=h.imp λx b a l _ _ i=>i.mk hm j
theorem rQ.H(h:rQ w v xs l)(i:Bw w w'):rQ w' v xs l:=rQ.mk h (Mk.tj i 0) (fk.nil _)
def AL(w:G)(v:dV)(xs:List LI):Prop:=∃(p:OA)(c:Nat),v=.S p (J xs) c/\(xs=[]\/∃b o,p=(Ad b o)/\∀(i:Nat)(x:LI),xs[i]?=x->∃u,I w (Ad b (o+i))=Y u/\Rd w u x)
theorem AL.H(h:AL w v xs)(j:Bw w w'):AL w' v xs:=by
 obtain⟨p,c,rfl,h⟩:=h;refine⟨p,c,rfl,?_⟩;obtain h|⟨b,o,rfl,h⟩:=h;{exact .L h};{refine .R ⟨b,o,rfl,λi x m=>?_⟩;let⟨u,r,q⟩:=h i x m;exact⟨u,aq r j,q.H j⟩}
theorem dL4(p:OA)(c n:Nat)(xs:List LI)(A:List Lf)(k:Int)(w:G)(h:rQ w (.S p n c) xs A)(hA:fk w A)(k0:0<=k)(k1:k+J A<=10^8)(hn:n<=10^8):dQ dG 38 #[.S p n c,.I k] w λe w'=>e=dR (.I (k+J A))/\Mk w w' A k:=by
 let⟨m,en,W,E,fL⟩:=h.at;let⟨AV,M,EA⟩:=gC fL hA E;have K1:k+(J (jL m):Int)<=10^8:=E▸k1;have LL:=ai W;clear h fL hA E en W;go_in;go_wp2
 go_loopw[1,5](λkk i wr=>∃j:Nat,j<=n/\i=.I j/\kk=.I (k+(((jT j m).flatten.length:Nat):Int))/\O (Mk w wr (jL (jT j m)) k)) (λ_ i _=>n-(jN (intOf i)))
 exact⟨0,de _,rfl,al,Mk.refl _ _⟩;{
 obtain⟨j,hj,rfl,rfl,r⟩:=hrel;have D:=Py m j;by_cases aH:j<n;{
 have dm:=cM j n;obtain⟨b,o,x,l,rfl,hx,hl,Z,y,V⟩:=ae AV j aH;have s:fk w (jL (jT j m)):=M.sub (λa ha=>by rw[ae EA];exact at6 ha);have u:fk w l:=M.sub V;let⟨q,d,X,N⟩:=XC.mk Z r s;rw[El]at X;have Ix:(jT (j+1) m).flatten.length=(jT j m).flatten.length+J l:=by rw[y,fe]
 have vr:k+((jT j m).flatten.length:Int)+(J l:Int)<=10^8:=by have:=Py m (j+1);omega
 have HT:=ai Ix;have UD:O (∀w',Mk wr w' l (k+((jT j m).flatten.length:Int))->Mk w w' (jL (jT (j+1) m)) k):=by intro w' B;rw[y];exact r.Z B s u
 generalize hT:(jT j m).flatten.length=T at*;have R:=bG N (u.mk r s);clear hT hx hl Z y V s r Ix u N;have hT0:0<=k+(T:Int):=af
 go_wp21
 refine cL (Rf R.1 R.2 af af) λv0 N0=>?_;have FE:=ai (ae UD _ N0);clear N0 X;go_wp2;go_roundw;exact⟨j+1,af,by go_num,by rw[ae HT];first|(simp;omega)|(congr 1;simp;omega),FE⟩;exact dy};{
 obtain rfl:j=n:=af;have e2:jL (jT j m)=A:=by rw[<-ae LL,wS];exact EA.C
 rw[e2]at r⊢;clear D AV M;exact aV}}
theorem eg9(p:OA)(c n:Nat)(xs:List LI)(A:List Lf)(k:Int)(w:G)(h:rQ w (.S p n c) xs A)(X:jt w A k)(k0:0<=k)(k1:k+J A<=10^8)(hn:n<=10^8):dQ dG 43 #[.S p n c,.I k] w (Rb (.I (k+J A)) w):=by
 let⟨m,en,N,r,D⟩:=h.at;have HA:=ai (show jt w (jL m) k by rw[<-r];exact X);have K1:k+(J (jL m):Int)<=10^8:=r▸k1
 change O _ at N D r
 clear h X en;go_in;go_wp2
 go_loopw[1,5](λkk i wr=>∃j:Nat,j<=n/\i=.I j/\kk=.I (k+(((jT j m).flatten.length:Nat):Int))/\O (Bw w wr)) (λ_ i _=>n-(jN (intOf i)))
 exact⟨0,de _,rfl,al,bD _ _⟩;{
 obtain⟨j,hj,rfl,rfl,s⟩:=hrel;have B:=Py m j;by_cases aH:j<n;{
 have dm:=cM j n;obtain⟨b,o,x,l,rfl,hx,hl,W,y,qA⟩:=ae D j aH;have R:=(HA.flat y).H s;let⟨q,d,V,E⟩:=XC.mk W (Mk.tj s 0) (fk.nil _);rw[El]at V;have Ix:(jT (j+1) m).flatten.length=(jT j m).flatten.length+J l:=by rw[y,fe]
 have vr:k+((jT j m).flatten.length:Int)+(J l:Int)<=10^8:=by have:=Py m (j+1);omega
 have HT:=ai Ix;generalize hT:(jT j m).flatten.length=T at*;have M:=bG E R;clear hT hx hl W y qA Ix E R;let⟨hT0,Mq⟩:0<=k+(T:Int)/\¬k+(T:Int)+(J l:Int)<0:=af
 go_wp21
 refine cL (ac2 M.1 M.2 af af) λv0 Z=>?_;have FE:=ai (aj s Z);clear Z V;go_wp2;go_roundw;exact⟨j+1,af,by go_num,by rw[ae HT];first|(simp;omega)|(congr 1;simp;omega),FE⟩;exact dy};{
 obtain rfl:j=n:=af;have e2:jL (jT j m)=A:=by rw[<-ae N,wS];exact r.C
 rw[e2];clear B D HA;go_wp2;go_ret;exact⟨rfl,s⟩}}
theorem cG5(p q:OA)(c d n:Nat)(l:List LI)(en:Le l n)(w:G)(h1:AL w (.S p n c) l)(h2:AL w (.S q n d) l)(hn:Mg n)(iW:O (∀y∈l,Mg (J y))):dQ dG 33 #[.S p n c,.S q n d] w (Rb (jO dY) w):=by
 have V:=ai λ(w':G)(hb:Bw w w')=>aE (h1.H hb) (h2.H hb);go_in
 go_wp21
 go_loopw[5](λi wr=>∃k:Nat,k<=n/\i=.I k/\Bw w wr) (pT n)
 exact⟨0,de _,rfl,bD _ _⟩;{
 obtain⟨k,hk,rfl,aC⟩:=hrel;by_cases aH:k<n;{
 have i1:=cM k n;have fg:k<J l:=ae en▸aH;let⟨P,B⟩:=qH fg;have dr:=ae iW P (bq B);have key:∀(p:OA)(c:Nat),AL wr (.S p n c) l->∃b o,p=(Ad b o)/\∃u,I wr (Ad b (o+k))=Y u/\Rd wr u P:=λp c h=>by obtain⟨p',c',ev,hd⟩:=h;obtain⟨rfl,-,-⟩:=mh ev;obtain h0|⟨b,o,h1,h2⟩:=hd;{exact yy};{exact⟨b,o,h1,h2 k _ B⟩}
 obtain⟨b1,o1,rfl,u1,x,s⟩:=key p c (ae V _ aC).1;obtain⟨b2,o2,rfl,u2,x2,j⟩:=key q d (ae V _ aC).2;obtain⟨p1,c1,rfl,-⟩:=id s;obtain⟨Z,c2,rfl,-⟩:=id j;let⟨m,M⟩:=bu (J P);rw[M]at s j x x2;have W:=bG s j;have N:=bG x x2
 go_wp21
 refine fw (λw'=>I w' (Ad b1 (o1+k))=dS p1 m c1/\I w' (Ad b2 (o2+k))=dS Z m c2) N λhS=>?_;refine gr 0 1 2 3 4 5 6 7 hS ?_;refine fy 8 λKK hK=>?_;refine uG (MB M (W.1.H mC) (W.2.H mC) af) ?_;rintro r X⟨rfl,aA⟩;refine fE ?_;have aR:Bw wr X:=aj (bD (U (Q wr)) wr).drew aA;refine bS hK (by obtain⟨k0,k1⟩:=ae N;exact⟨aq k0 aR,aq k1 aR⟩) λhS=>?_;exact ao2};{have fg:=ga k n;exact aV}}
theorem PS.eW4{SB NB HB UB:iN}(h:PS w0 w b bs bn D SB NB HB UB){s:aB}(hE:PE w0 w gN s)(Eu:gN∉SB)(hid:∀s'∈D.E,s'.1≠s.1)(iO:One w0 w w' bs)(hl:J D.E<2^20)(hM:∀M,jM w dG 27 kc bs (J D.E) M->jM w' dG 27 kc bs (J D.E+1) (M.put (.U s.1) (.lit (.I gN)))):PS w0 w' b bs bn {D with E:=D.E++[s]} (SB++[gN]) NB HB UB:=by
 let⟨d0,d1,d2,d3,d4,d5⟩:=h.hu;let⟨M,n,o,hn,m,hz⟩:=h.vY;let⟨es0,c0,m0⟩:=ownsMap_at o;have nc:∀{y:Nat}{cs:iA}{ty:TypeId},w.heap[y]?=dO cs ty->y≠bs:=λ{y cs ty}hy e=>by rw[e,m0]at hy;cases hy
 have iL:∀p∈jZ (λ(s:aB)g=>(Lit.U s.1,g)) D.E SB,p.1≠.U s.1:=λp hp e=>by obtain⟨i,s',y,h1,-,rfl⟩:=AY hp;exact hid s' (bq h1) (by simpa using e)
 have o':=Ll o;rw[hz]at o';refine⟨h.be.Z iO.b,iO.obj h.hd (nc h.hd),by simp[h.vZ],⟨_,_,hM M o',af,?_,?_⟩,λj s1 g1 fO fo=>?_,?_,h.xJ,h.hlen,h.zI,?_,λj jh gb h1 u1 fO fo qj lQ=>?_,h.Hy,h.lo,h.xt⟩;{rw[bb7 h.vZ.C];exact m.put o.isMap (k:=.U s.1) iH iL gN};{
 have hh:Maps.has M (.U s.1)=dF:=by rw[Gj];intro e;let⟨p,hp,e2⟩:=(m.hs _).1 e;exact iL p hp e2
 rw[size_put (as6 o oO),hh];simp[hz]};{
 have aH:j<J D.E\/j=J D.E:=by have:=(bH.1 fO).1;simp at this;omega
 obtain aH|rfl:=aH;{simp only[oI aH]at fO;rw[oI (h.vZ▸aH)]at fo;have q:=h.vy j s1 g1 fO fo;obtain⟨-,u,h1,-⟩:=id q;exact q.W iO (nc h1)};{simp at fO;rw[<-h.vZ]at fo;simp at fo;subst fO;subst fo;obtain⟨-,u,h1,-⟩:=id hE;exact hE.W iO (nc h1)}};{rw[Gm];refine⟨h.snd,al,λa ha c hc=>?_⟩;simp at hc;subst hc;exactλe=>Eu (e▸ha)};{let⟨M,n,o,r⟩:=h.sP;exact⟨M,n,iO.map o (λe=>d0 e.C),r⟩};{have q:=h.rV j jh gb h1 u1 fO fo qj lQ;obtain⟨-,⟨V,q1,-⟩,p3,p4⟩:=id q;exact q.W iO (nc q1) (d1 _ (bq qj)).1 (d2 _ (bq lQ)).1}
theorem dG1{SB NB HB UB:iN}(h:O (PS w0 w b bs bn D SB NB HB UB))(hx:0<=D.x/\D.x<2^62)(ht:0<=D.t/\D.t<=1000000)(Eu:O (∀s'∈D.E,s'.1≠D.x+1))(hl:O (J D.E<2^20)):dQ dG 335 #[jP #[],Pz b] w λr w'=>∃gN,tg w0 w b bs bn {D with x:=D.x+1,E:=D.E++[(D.x+1,D.t+10,[])]} (SB++[gN]) NB HB UB {iS with i:=D.x+1,n:=D.t+10} r w':=by
 let⟨X,iY,hX,hY,bY,zX,zY,BX,RY⟩:=MW w #[] 296;have GY:=ai RY;have DZ:=h.be.size;obtain⟨-,-,h2,-,-,-,hf⟩:=h.oU;have k2:=λ(o1 o2:Obj)=>aq h2 (((bD (U (Q w)) w).alloc aU o1).alloc al o2);have kf:=λ(o1 o2:Obj)(o:Nat)=>((((bD (U (Q w)) w).alloc aU o1).alloc al o2).frozen (p:=(Ad b o)) (gQ h.hd)).Z (hf o);clear RY BX h2 hf;go_in
 go_wp21
 rw[<-hX,<-hY];have PY:=ai (h.H bY);let⟨Z,hZ⟩:=aF (jS iY (Ad b 2) (.U (D.x+1)));rw[<-hZ];have iO:=One.Hr PY.be (by rw[hZ];exact db.setCell (p:=(Ad b 2)) aU _:Below b iY Z) PY.hd PY.lo.1 al (λz _ aP=>by rw[hZ];exact gh _ _ _ _ (show z≠_ from aP));refine Bj 10 aS (λW eW=>?_);have bW:=kH eW;let⟨PW,FW⟩:=aQ ((PY.aO4 iO D.e D.g (D.x+1) D.t (by rw[hZ];simp[World.setCell,Ac,PY.hd])).H bW) (iO.T.Z (Fr.H (T:=T3) bW));obtain⟨-,-,q2,q3,-⟩:=PW.oU;clear eW bW;simp only[Ej,wG,Df,yF]
 repeat still_step
 refine qV ?_;obtain⟨V,hV,bV,zV,-,gV⟩:=cR W #[.U (D.x+1),.I (D.t+10),ay] 148
 go_wp21
 rw[<-hV];clear hV q2 q3;let⟨PV,FV⟩:=aQ (PW.H bV) (FW.Z (Fr.H (T:=T3) bV));let⟨gN,eN⟩:=aF (U (Q W));rw[<-eN]at gV⊢;have hnS:gN∉SB:=λe=>by let⟨i,hi⟩:=lh.1 e;obtain⟨s',vk⟩:∃s',D.E[i]?=Y s':=⟨_,bN (by have:=PW.vZ;simp only at this;rw[<-this];exact(bH.1 hi).1)⟩;obtain⟨-,u,hu,-⟩:=PW.vy i s' gN vk hi;have:=gQ hu;omega
 have glo:U (Q w0)<=gN:=aM PW.be.size;have HN:=bG hnS glo;have GV:=ai gV;clear hnS eN PW FW gV;refine Bj 9 aS (λW2 TL=>?_);have Uh:=kH TL;let⟨I0,QD⟩:=aQ (PV.H Uh) (FV.Z (Fr.H (T:=T3) Uh));obtain⟨-,-,-,-,q4,-⟩:=I0.oU;have gW2:=(Uh.block gN (gQ GV)).Z GV;have g0:=cI gW2 0;have gO:=keyOf_int_mk underlying27 (FR (i:=D.x+1) af);let⟨M,n,o,hn,m,hz⟩:=I0.vY;have o':=Ll o;rw[hz]at o';let⟨iU,gx,ho,qY⟩:=o'.update oO underlying185 (by have:=ae hl;show J D.E<_;unfold maxLen;omega) gO (as4 gN);have O2:=One.Hq I0.be qY I0.lo.2.1 (ownsMap_at o');have PU:=ai (I0.eW4 (s:=(D.x+1,D.t+10,[])) (gN:=gN) ⟨HN.2,_,gW2,AQ.nil _ _⟩ HN.1 Eu O2 hl (λM' o1=>by obtain⟨U',ZS,xS,-⟩:=o1.update oO underlying185 (by have:=ae hl;show J D.E<_;unfold maxLen;omega) gO (as4 gN);rw[gx]at ZS;cases ZS;exact xS))
 have FU:=ai (QD.Z O2.T);have aP:gN≠bs:=λe=>by let⟨es,c,hm⟩:=ownsMap_at o;rw[<-e,gW2]at hm;cases hm
 have GU:=ai (O2.obj gW2 aP);clear TL Uh gW2 o o' m hz ho qY O2 PV FV aP;simp only[Ej,wG,Df,yF]
 repeat still_step
 refine qV ?_
 go_wp21
 clear gx g0 q4 I0 QD;refine Bj 9 aS (λW3 eW3=>?_);have bU:=kH eW3;have P3:=ai (PU.H bU);have F3:=FU.Z (Fr.H (T:=T3) bU);have gW3:=(bU.block gN (gQ GU)).Z GU;have g0:=cI gW3 0;have g1:=cI gW3 1;have R3:=GY.T F3;have r0:=R3.cells;let⟨F3',R3'⟩:=aQ ((Fr.H (T:=T3) bY).Z F3) R3;clear eW3 bU gW3 R3 F3;simp only[Ej,wG,Df,yF]
 repeat still_step
 refine qV ?_;go_wp2;exact QS R3' aS rfl rfl ⟨gN,PS.rep P3 R3' af _ _ _ _ _ _ _ _,F3'.low ((rT).h af),rfl⟩
variable {l:LI}
theorem dD9:J (iV l)<=J l+1:=by
 unfold iV;split;{simp};{rw[tz];omega}
theorem aw4(i:J P<=1048577):keyOf dG 9 (jJ (bg P))=(ft P):=by
 rw[WideMaps.keyOf_string_mk underlying9 (by rw[DQ];unfold maxLen;omega),Xi]
theorem PS.az0{SB NB HB UB:iN}(h:PS w0 w b bs bn D SB NB HB UB){g:Nat}(x:D.N[i]?=nd)(y:NB[i]?=Y g)(s:J nd.A<=1048577):(Instr.lookup 186 (.map bn) (jJ (bg nd.A)) dY).run dG w=.ok (dT #[Pz g,jO dY]) w:=by
 obtain⟨M,n,o,-,m,-⟩:=h.sP;let⟨v,B,r,j⟩:=o.look_ok uM underlying186 (UY w) (zd:=.nil) (zp:=[]) rfl (aw4 s);have q:(ft nd.A,g)∈jZ (λ(nd:au)g=>(ft nd.A,g)) D.N NB:=bq (i:=i) (by rw[tA,x,y]);rw[m.at' _ q]at j;cases Vr j;rw[r,(m.hs _).2 ⟨_,q,rfl⟩]
theorem PS.at5{SB NB HB UB:iN}(h:PS w0 w b bs bn D SB NB HB UB)(x:kP D.N P=dN)(R:aD P)(s:∀nd∈D.N,aD nd.A)(N:J P<=1048577):(Instr.lookup 186 (.map bn) (jJ (bg P)) dY).run dG w=.ok (dT #[dP dN,jO dF]) w:=by
 obtain⟨M,n,o,-,m,-⟩:=h.sP;let⟨v,V,B,q⟩:=o.look_ok uM underlying186 (UY w) (zd:=.nil) (zp:=[]) rfl (aw4 N);have r:Maps.has M (ft P)=dF:=by rw[Gj];intro e;let⟨p,E,S⟩:=(m.hs _).1 e;obtain⟨i,nd,y,j,W,rfl⟩:=AY E;exact cg3 x nd (bq j) (Oj (s nd (bq j)) R S)
 rw[Maps.atKey_of_not_has r]at q;cases aV7 q;rw[B,r]
theorem eS5{SB NB HB UB:iN}(h:O (PS w0 w b bs bn D SB NB HB UB))(S:O (aD l))(oW:O (∀nd∈D.N,aD nd.A))(N:J l<=1048577){B:Bool}(W:O (qG D.N l=B)):dQ dG 187 #[Pz b,jJ (bg l)] w (Rb (jO B) w):=by
 obtain⟨-,-,-,-,-,uq,-⟩:=h.oU;have r:((bg l).toList==(bg [47]).toList)=dD (l=[47]):=Qa S (by intro y hy;simp at hy;omega);rw[show(bg [47]).toList=[47]from DR [47]]at r;by_cases m:l=[47];{
 cases(by rw[<-ae W,qG,aK m]:B);have o:((bg l).toList==[47]):=by rw[r];simp[m]
 let⟨s,es⟩:=aF (bg l);rw[<-es]at o⊢;clear r m es;go_in;exact aV};{
 have o:((bg l).toList==[47])=dF:=by rw[r];simp[m]
 have j:(match kP D.N l with|some nd=>nd.D==0|none=>dF)=B:=by rw[<-ae W,qG,aJ m];rfl
 cases hF:kP D.N l with
 |none=>
  rw[hF]at j;cases j.C;have E:=h.at5 hF S oW N;let⟨s,es⟩:=aF (bg l);rw[<-es]at o E⊢;clear hF j es;go_in;exact aV
 |some nd=>
  rw[hF]at j;replace j:(nd.D==0)=B:=j;obtain⟨rfl,i,u⟩:=Y5 hF;let⟨g1,h1,u1,M,q2,Z,R⟩:=h.nat u;have E:=h.az0 u M N;obtain⟨V,-,-,-,x,-⟩:=R.cells;let⟨ow,X⟩:=bu nd.D;rw[X]at x j;let⟨s,es⟩:=aF (bg nd.A);rw[<-es]at o E⊢;clear hF u M q2 Z R X es;go_in;go_wp2;go_ret;exact⟨by rw[<-j];rfl,bD _ _⟩}
def MO(D:SD)(P:LI):Int:=if(kP D.N P).isSome then 6 else if qG D.N (iV P)=dF then 7 else if 200<=J D.N then 11 else 0
theorem eL6{SB NB HB UB:iN}(h:O (PS w0 w b bs bn D SB NB HB UB))(E:O (aD P))(x:Le P np)(lr:np<=2^20)(V:O (∀nd∈D.N,aD nd.A)){id:Int}{F:Bool}(eC:O (MO D P=C)):dQ dG 348 #[jP #[.U id,jJ (bg P),jO F,.S pv nv cv],Pz b] w (Rb (sC C) w):=by
 obtain⟨X,hX,bX,zX,CX,-⟩:=cR w #[.U id,jJ (bg P),jO F,.S pv nv cv] 302;have e:=ae eC;unfold MO at e;go_in
 go_wp21
 rw[<-hX];refine Ga aS (λW u=>?_);have bW:Bw w W:=u▸bX.drew;have s:=ai (h.H bW);obtain⟨-,-,-,-,-,k5,-⟩:=s.oU;have R:=CX.dt (w':=W) (by rw[u];rfl);have c1:=R.1 1 _ rfl;have zW:U (Q w)<U (Q W):=by rw[u];show _<U (Q X);omega
 have HCW:=ai R;clear hX u CX R;cases hF:kP D.N P with
 |some nd=>
  rw[hF]at e;obtain⟨rfl,i,Z⟩:=Y5 hF;obtain⟨g1,h1,u1,q1,-,-,hN⟩:=s.nat Z;have gx:=s.az0 Z q1 (by rw[ae x];omega);cases(by rw[<-e];rfl:C=6)
  repeat still_step
  refine qV ?_;exact aV
 | none=>
  rw[hF]at e;have gx:=s.at5 hF E V (by rw[ae x];omega)
  repeat still_step
  refine qV ?_
  go_wp21
  refine(aW0 (l:=P) (n:=np) x E lr (w:=W)).h ?_;rintro r w2⟨rfl,rfl⟩;let⟨B,eB⟩:=cg (qG D.N (iV P))
  go_wp21
  refine(eS5 (w:=w2) (b:=b) (bs:=bs) (bn:=bn) (D:=D) (SB:=SB) (NB:=NB) (HB:=HB) (UB:=UB) s (l:=iV P) (Vs E) V (by have:=dD9 (l:=P);have:=ae x;omega) (B:=B) eB).h ?_;rintro r w5⟨rfl,eh⟩;have e:=e;rw[ae eB]at e;let⟨AU,P5⟩:=aQ (aj bW eh) (s.H eh);cases B with
  |false=>
   cases(by rw[<-e];simp:C=7);exact aV
  |true=>
   obtain⟨-,-,-,-,-,k5,-⟩:=P5.oU;let⟨M,n,o,hn,m,hz⟩:=P5.sP;have j:=o.len underlying186 3;rw[hz]at j;let⟨y,iq⟩:=bu (J D.N);rw[iq]at j e;by_cases h2:200<=y;{have N:=gS 200 y;cases(by rw[<-e];simp[h2]:C=11);exact aV};{have N:¬(200:Int)<=(y:Int):=af;cases(by rw[<-e];simp[h2]:C=0);exact aV}
def rZ{α:Type}(j:Nat)(a:α)(l:List α):List α:=jT j l++a::jD j l
theorem Se{α:Type}{a:α}{l:List α}(i:j<=J l):J (rZ j a l)=J l+1:=by
 unfold rZ;simp;omega
theorem aw8{α:Type}(a:α){l:List α}:(rZ j a l).Perm (a::l):=by
 unfold rZ;refine bb6.Z ?_;rw[JN]
theorem aw9{α:Type}{a:α}{l:List α}(q:j<=J l)(i:Nat):(rZ j a l)[i]?=if i<j then l[i]? else if i=j then Y a else l[i-1]?:=by
 unfold rZ;by_cases m:i<j;{rw[aK m,oI (by rw[tz];omega),bd4,aK m]};{rw[aJ m,qT (by rw[tz];omega),tz,ba8 q];by_cases o:i=j;{subst o;simp};{rw[aJ o];obtain⟨d,rfl⟩:∃d,i=j+d+1:=⟨i-j-1,af⟩;rw[show j+d+1-j=d+1 by omega,sR,NK];simp}}
theorem co1(nd:au):∀l:List au,∃j,j<=J l/\rF nd l=rZ j nd l
 |[]=>⟨0,al,by simp[rF,rZ]⟩
 |x::r=>by rw[rF];split;{exact⟨0,al,by simp[rZ]⟩};{let⟨j,i,e⟩:=co1 nd r;refine⟨j+1,bL,?_⟩;rw[e];simp[rZ]}
theorem dU2{α β γ:Type}(f:α->β->γ){a:α}{c:β}{l:List α}{m:List β}(i:J l=J m)(o:j<=J l):jZ f (rZ j a l) (rZ j c m)=rZ j (f a c) (jZ f l m):=by
 unfold rZ;rw[bb7 (by simp[i]),ci5,List.take_zipWith,List.drop_zipWith]
theorem PS.eW6{SB NB HB UB:iN}(h:PS w0 w b bs bn D SB NB HB UB){hN uN:Nat}(hj:j<=J D.N)(hPN:PN w0 w gN hN uN nd)(hg:gN∉NB)(Eu:∀z∈bs::bn::(HB++UB),z≠hN/\z≠uN)(hNu:hN≠uN)(hid:∀nd'∈D.N,ft nd'.A≠ft nd.A)(iO:One w0 w w' bn)(hl:J D.N<2^20)(hM:∀M,jM w dG 9 kc bn (J D.N) M->jM w' dG 9 kc bn (J D.N+1) (M.put (ft nd.A) (.lit (.I gN)))):PS w0 w' b bs bn {D with N:=rZ j nd D.N} SB (rZ j gN NB) (rZ j hN HB) (rZ j uN UB):=by
 let⟨d0,d1,d2,d3,d4,d5⟩:=h.hu;let⟨M,n,o,hn,m,hz⟩:=h.sP;let⟨es0,c0,m0⟩:=ownsMap_at o;have nc:∀{y:Nat}{cs:iA}{ty:TypeId},w.heap[y]?=dO cs ty->y≠bn:=λ{y cs ty}hy e=>by rw[e,m0]at hy;cases hy
 have iL:∀p∈jZ (λ(nd:au)g=>(ft nd.A,g)) D.N NB,p.1≠ft nd.A:=λp hp e=>by obtain⟨i,s',y,h1,-,rfl⟩:=AY hp;exact hid s' (bq h1) e
 have o':=Ll o;rw[hz]at o';refine⟨h.be.Z iO.b,iO.obj h.hd (nc h.hd),h.vZ,?_,λi s1 g1 fO fo=>?_,h.snd,?_,?_,?_,⟨_,_,hM M o',af,?_,?_⟩,λi jh gb h1 u1 fO fo qj lQ=>?_,?_,h.lo,?_⟩;{let⟨M,n,o,r⟩:=h.vY;exact⟨M,n,iO.map o d0,r⟩};{have q:=h.vy i s1 g1 fO fo;obtain⟨-,u,h1,-⟩:=id q;exact q.W iO (nc h1)};{rw[Se (h.xJ▸hj),Se hj,h.xJ]};{rw[Se (h.hlen▸hj),Se hj,h.hlen]};{rw[Se (h.zI▸hj),Se hj,h.zI]};{rw[dU2 _ h.xJ.C hj];refine(m.put o.isMap (k:=ft nd.A) iH iL gN).same λp=>?_;rw[(aw8 _).mem_iff];simp[or_comm]};{
 have hh:Maps.has M (ft nd.A)=dF:=by rw[Gj];intro e;let⟨p,hp,e2⟩:=(m.hs _).1 e;exact iL p hp e2
 rw[size_put (as6 o uM),hh,Se hj];simp[hz]};{
 simp only[aw9 hj]at fO;rw[aw9 (h.xJ▸hj)]at fo;rw[aw9 (h.hlen▸hj)]at qj;rw[aw9 (h.zI▸hj)]at lQ;have kp:∀{i':Nat},D.N[i']?=Y jh->NB[i']?=Y gb->HB[i']?=Y h1->UB[i']?=Y u1->PN w0 w' gb h1 u1 jh:=λa1 a2 a3 a4=>by have q:=h.rV _ jh gb h1 u1 a1 a2 a3 a4;obtain⟨-,⟨V,q1,-⟩,p3,p4⟩:=id q;exact q.W iO (nc q1) (d1 _ (bq a3)).2 (d2 _ (bq a4)).2
 by_cases e1:i<j;{rw[aK e1]at fO fo qj lQ;exact kp fO fo qj lQ};{rw[aJ e1]at fO fo qj lQ;by_cases e2:i=j;{rw[aK e2]at fO fo qj lQ;cases fO;cases fo;cases qj;cases lQ;obtain⟨-,⟨V,q1,-⟩,p3,p4⟩:=id hPN;exact hPN.W iO (nc q1) (λe=>(Eu bn al).1 e.C) (λe=>(Eu bn al).2 e.C)};{rw[aJ e2]at fO fo qj lQ;exact kp fO fo qj lQ}}};{rw[(aw8 _).nodup_iff,Gn];exact⟨hg,h.Hy⟩};{
 have pm:(bs::bn::(rZ j hN HB++rZ j uN UB)).Perm (hN::uN::(bs::bn::(HB++UB))):=by
  have a1:(rZ j hN HB++rZ j uN UB).Perm (hN::uN::(HB++UB)):=
   ((aw8 (j:=j) hN (l:=HB)).append (aw8 (j:=j) uN (l:=UB))).Z ((bb6 (a:=uN) (l₁:=HB) (l₂:=UB)).cons hN)
  exact(((a1.cons bn).cons bs).Z (((List.Perm.swap hN bn (uN::(HB++UB))).cons bs).Z (List.Perm.swap hN bs _))).Z ((λx y l=>(((List.Perm.swap y bn l).cons bs).Z (List.Perm.swap y bs (bn::l))).cons x) hN uN _)
 rw[pm.nodup_iff,Gn,Gn];refine⟨λe=>?_,λe=>(Eu uN e).2 rfl,h.xt⟩;obtain e|e:=gD.1 e;{exact hNu e};{exact(Eu hN e).1 rfl}}
theorem cg1{s:Nat}(es:U (Q iY)=s)(v0 v1 v2 v4 v5:dV):∃V,V=jA ((iY.alloc (.map #[] 0)).alloc (.map #[] 0)) (dO #[v0,v1,v2,.map s,v4,v5,.map (Y (s+1))] 193)/\Bw iY V/\U (Q V)=s+3/\V.heap[s+2]?=dO #[v0,v1,v2,.map s,v4,v5,.map (Y (s+1))] 193/\SM V s []/\SM V (s+1) []:=by
 subst es;have m:U (Q (iY.alloc (.map #[] 0)))=U (Q iY)+1:=al;have x:U (Q ((iY.alloc (.map #[] 0)).alloc (.map #[] 0)))=U (Q iY)+2:=al;obtain⟨V,i,y,j,-,r⟩:=cR ((iY.alloc (.map #[] 0)).alloc (.map #[] 0)) #[v0,v1,v2,.map (U (Q iY)),v4,v5,.map (Y (U (Q iY)+1))] 193;rw[x]at r j;have q:=World.ownsMap_made (H:=Unit) (iY.alloc (.map #[] 0)) dG 27 unitElem;rw[m]at q;refine⟨V,i,?_,j,r,?_,?_⟩;{exact aj (cY.alloc (by rw[m];omega) _) y};{refine⟨.map [],0,?_,af,lX.nil,rfl⟩;rw[i];exact((World.ownsMap_made (H:=Unit) iY dG 27 unitElem).alloc _).alloc _};{refine⟨.map [],0,?_,af,lX.nil,rfl⟩;rw[i];exact q.alloc _}
theorem eL7{SB NB HB UB:iN}(h:O (PS w0 w b bs bn D SB NB HB UB)){id:Int}{F:Bool}(hV:O (AB w0 w (.S pv nv cv) VL))(lr:O (Mg (J P)))(iL:O (∀nd'∈D.N,ft nd'.A≠ft P))(hl:O (J D.N<2^20))(hj:O (j<=J D.N)):dQ dG 347 #[jP #[.U id,jJ (bg P),jO F,.S pv nv cv],Pz b] w λr w'=>∃gN hN uN,tg w0 w b bs bn {D with N:=rZ j (rU P VL (if F then id else 0)) D.N} SB (rZ j gN NB) (rZ j hN HB) (rZ j uN UB) iS r w':=by
 let⟨X,iY,hX,hY,bY,zX,zY,BX,RY⟩:=MW w #[.U id,jJ (bg P),jO F,.S pv nv cv] 302;have Ik:=@au6 dG;have GY:=ai RY;have DZ:=h.be.size;go_in;cases F;{
 let⟨V,eV,bV,zV,gV,s1,s2⟩:=cg1 zY (.S pv nv cv) (.U 0) (.I 0) (.U 0) (.U 0);have Je:=ai BX
 go_wp21
 rw[<-hX,<-hY,<-eV];refine Bj 8 aS (λW eW=>?_);let⟨bV,zV,gV,s1,s2⟩:=ae (nK bV zV gV s1 s2);have Kw:=kH eW;have nJ:Bw iY W:=aj bV Kw;have bW:Bw w W:=aj bY nJ;have PW:=ai (h.H bW);have c1:=cI ((nJ.block (U (Q w)) af).Z Je) 1;obtain⟨-,-,-,-,-,k5,-⟩:=PW.oU;have gO:=aw4 (P:=P) (aM (ae lr));have gW:=(Kw.block (U (Q w)+1+1+2) af).Z gV;have PNW:PN w0 W (U (Q w)+1+1+2) (U (Q w)+1+1) (U (Q w)+1+1+1) (rU P VL 0):=⟨⟨af,af,af⟩,⟨_,gW,hV.T (cG bW) al⟩,s1.kept (Kw.block _ af),s2.kept (Kw.block _ af)⟩;exact zs0};{
 let⟨V,eV,bV,zV,gV,s1,s2⟩:=cg1 zY (.S pv nv cv) (.U id) (.I 0) (.U 0) (.U 0);have Je:=ai BX
 go_wp21
 rw[<-hX,<-hY,<-eV];refine Bj 8 aS (λW eW=>?_);let⟨bV,zV,gV,s1,s2⟩:=ae (nK bV zV gV s1 s2);have Kw:=kH eW;have nJ:Bw iY W:=aj bV Kw;have bW:Bw w W:=aj bY nJ;have PW:=ai (h.H bW);have c1:=cI ((nJ.block (U (Q w)) af).Z Je) 1;obtain⟨-,-,-,-,-,k5,-⟩:=PW.oU;have gO:=aw4 (P:=P) (aM (ae lr));have gW:=(Kw.block (U (Q w)+1+1+2) af).Z gV;have PNW:PN w0 W (U (Q w)+1+1+2) (U (Q w)+1+1) (U (Q w)+1+1+1) (rU P VL id):=⟨⟨af,af,af⟩,⟨_,gW,hV.T (cG bW) al⟩,s1.kept (Kw.block _ af),s2.kept (Kw.block _ af)⟩;exact zs0}
theorem ex6{a c d:dV}:(Instr.field 148 (jP #[a,c,d]) 2).run dG w=.ok d w:=by kernel_rfl
theorem dC1(w:G)(b bs bn:Nat)(D:SD)(SB NB HB UB:iN)(h:O (PS w0 w b bs bn D SB NB HB UB))(k:Nat)(s:aB)(hk:O (D.E[k]?=s))(hr:0<=s.1/\s.1<2^64)(n:Nat)(en:Le s.2.2 n)(hn:Mg n)(Kd:O (∀e∈s.2.2,J e.2<=2^20)):dQ dG 361 #[jP #[.U s.1],Pz b] w λr w'=>∃p c A,PS w0 w' b bs bn {D with E:=D.E.set k (s.1,s.2.1,[])} SB NB HB UB/\Fr T3 w w'/\r=dR (ij 0 0 0 0 0 ay ay (.S p n c))/\rP w' (.S p n c) s.2.2/\lI w' (.S p n c) s.2.2 A/\gp (U (Q w)) w' A:=by
 let⟨g,u,hg,gl,g0,hW⟩:=h.xC hk hr;let⟨X,iY,hX,hY,bY,zX,zY,BX,RY⟩:=MW w #[.U s.1] 316;have DZ:=h.be.size
 change O _ at hW
 go_in
 go_wp21
 rw[<-hX,<-hY];refine Ga aS (λW eW=>?_);have nJ:=kH eW;have bW:Bw w W:=aj bY nJ;have zW:U (Q w)+2<=U (Q W):=aM nJ.size;let⟨k3,k4,kl,kb,k1,kf⟩:=ae hW W bW;have c0:=cI ((nJ.block (U (Q w)) af).Z BX) 0;have PW:=ai (h.H bW);obtain⟨-,u',Er,hQ⟩:=PW.vy k s g hk hg;rw[kb]at Er;cases Er;have hR:=hQ.QU PW.be;obtain⟨pq,cq,rfl,-⟩:=id hQ;rw[ae en]at kb hR;have g0c:=cI kb 0;have g2c:=cI kb 2;let⟨KB,HR,IX⟩:=gC kb hR hg;have UN:=bG nJ RY;clear hX hY eW kb BX hQ k3 hR hg nJ RY
 repeat still_step
 refine qV ?_
 go_wp21
 refine(cK9 s.1 s.2.1 pq cq n s.2.2 en W HR hn Kd).h ?_;rintro r w5⟨p',c',A,rfl,Iz,hLv,hAp,eh⟩;have P5:=ai (PW.H eh);have gW5:=(eh.block g af).Z KB;have e2:=cI gW5 2;have ef:∀o,jF w5 (Ad g o)=dF:=λo=>by simp[World.frozen?,gW5]
 have HQ:=eG Iz hLv hAp;let⟨Z,hZ⟩:=aF (jS w5 (Ad g 2) ay);have kZ:∀z,z≠g->Z.heap[z]?=w5.heap[z]?:=λz aP=>by rw[hZ];exact gh _ _ _ _ (show z≠_ from aP)
 have iO:=One.Hr P5.be (by rw[hZ];exact db.setCell (p:=(Ad g 2)) aU _:Below g w5 Z) gW5 g0 al (λz _ aP=>kZ z aP);have PZ:=ai (PS.zJ (s':=(s.1,s.2.1,[])) P5 hk IX iO rfl ⟨g0,_,(by rw[hZ];simp[World.setCell,Ac,gW5]),AQ.nil _ _⟩);have FY:=((Fr.H (T:=T3) UN.1).Z (Fr.H (T:=T3) eh)).Z iO.T;have zl:=UN.2.T FY;have r0:=zl.cells;let⟨FZ,RZ,KZ⟩:=gC ((Fr.H (T:=T3) bY).Z FY) zl kZ;clear Iz hLv hAp eh gW5 kZ iO FY zl k4 kl k1 kf c0 g0c g2c;subst hZ;have hfd:=ex6 (a:=.U s.1) (c:=.I s.2.1) (d:=.S p' n c') (w:=w5);go_wp2;have Ip:∀a∈A,(nH (jS w5 (Ad g 2) ay) (U (Q w)+1) (.I 0) (.U 0) (.U 0) (.U 0) (.I 0) ay ay (.S p' n c')).heap[a.b]?=w5.heap[a.b]?:=λa ha=>by have:=HQ.2.2.lo a ha;exact(NC af).Z (ae KZ a.b af)
 exact QS RZ aS rfl rfl ⟨p',c',A,PS.rep PZ RZ af _ _ _ _ _ _ _ _,FZ.low ((rT).h af),rfl,HQ.1.kR HQ.2.1 Ip,HQ.2.1.W Ip,(HQ.2.2.W Ip).h af⟩
theorem eu5(w:G)(b bs bn:Nat)(D:SD)(SB NB HB UB:iN)(h:O (PS w0 w b bs bn D SB NB HB UB))(k:Nat)(nd:au)(hk:O (D.N[k]?=nd))(lr:J nd.A<=2^20)(n:Nat)(en:Le nd.V n)(hn:Mg n):dQ dG 352 #[jP #[jJ (bg nd.A)],Pz b] w λr w'=>∃p c j,PS w0 w' b bs bn D SB NB HB UB/\Fr T3 w w'/\r=dR (ij 0 nd.D nd.P nd.F nd.M (.S p n c) ay ay)/\Own (U (Q w)+2) j (.S p n c) nd.V/\(∀z,z≠U (Q w)+1->w'.heap[z]?=j.heap[z]?):=by
 obtain⟨g,hh,uu,V0,hg,jq,jv,gl,-,-,g0,hW⟩:=h.Lu hk lr;let⟨X,iY,hX,hY,bY,zX,zY,BX,RY⟩:=MW w #[jJ (bg nd.A)] 306;let⟨HW,GY⟩:=aQ hW RY;have DZ:=h.be.size;clear hW RY;go_in
 go_wp21
 rw[<-hX,<-hY];refine Ga aS (λW eW=>?_);have m:=kH eW;let⟨k5,kl,kN,N⟩:=ae HW W (aj bY m);have c0:=cI ((m.block (U (Q w)) af).Z BX) 0;obtain⟨V',Pe,aR,-⟩:=kN.cells;rw[N]at aR;cases aR;have PW:=ai (h.H (aj bY m));have hR:=Pe.rd PW.be;obtain⟨pv,cv,rfl,-⟩:=id hR;rw[ae en]at N hR;let⟨Uy,HR,KB⟩:=gC m hR N;clear hX hY eW BX kN Pe hR N m
 repeat still_step
 refine qV ?_
 go_wp21
 clear k5 kl c0;let⟨y,V⟩:=aF W.drew;have bA:=kH V;let⟨M,HC,HS⟩:=gC bA (λ(v:G)(hv:Bw W v)=>(hv.block g (gQ KB)).Z KB) (λ(v:G)(hb:v.heap[g]?=dO #[.S pv n cv,.U nd.D,.I nd.M,.map hh,.U nd.P,.U nd.F,.map uu] 193)=>aE (cI hb 0) (aE (cI hb 1) (aE (cI hb 2) (aE (cI hb 4) (cI hb 5)))));refine fw (λw'=>I w' (Ad g 0)=dS pv n cv/\I w' (Ad g 1)=dU nd.D/\I w' (Ad g 2)=dI nd.M/\I w' (Ad g 4)=dU nd.P/\I w' (Ad g 5)=dU nd.F) (V▸ae HS y (ae HC y bA)) λhS=>?_;rw[<-V]at hS⊢;clear V bA;refine gr 0 1 2 3 4 5 6 7 hS ?_;refine gr 8 9 10 11 12 13 14 15 hS ?_;refine iy 16 17 18 19 hS ?_;refine ry [20] ?_;refine cn (λx hK=>?_) ?_;rotate_left;exact fN;rotate_right;go_simp;obtain⟨Z,hZ,bZ,zZ,-,-⟩:=cR y #[.S pv n cv] 22;rw[<-hZ];refine bS hK (HS Z (ae HC Z (aj M bZ))) λhS=>?_;have HZ:=ai hZ;clear hK x hZ bZ;refine ry [21] ?_;refine cn (λx hK=>?_) ?_;rotate_left;exact fN;rotate_right;refine Jr aY (f:=129) aY (v1:=.T (U (Q y)) 1 1) aY (λ_=>(λ(vs:iA)(w:G)=>show(callFunc 129 vs).run dG w=.ok (.enter 129 vs) w by kernel_rfl) _ _) (by rw[ae HZ];exact cn3 en (HR.H M) af) ?_;rintro r j⟨p',c',rfl,s,eh⟩;refine fE ?_;let⟨B5,HO5⟩:=aQ (aj M eh) s;refine bS hK (HS j (ae HC j B5)) λhS=>?_;clear hK x s eh HZ;refine tn 22 hS ?_;have FY:=Fr.H (T:=T3) (aj Uy B5);have R5:=GY.T FY;have r0:=R5.cells;let⟨F5,u⟩:=aQ ((Fr.H (T:=T3) bY).Z FY) R5;clear FY R5;refine ry [23] ?_;refine cn (λx hK=>?_) ?_;rotate_left;exact fN;rotate_right;go_simp;let⟨iU,q⟩:=aF (nH j (U (Q w)+1) (.I 0) (.U nd.D) (.U nd.P) (.U nd.F) (.I nd.M) (.S p' n c') ay ay);have HU:=ai q;have gU:iU.heap[g]?=j.heap[g]?:=q▸NC af;unfold nH gL at q;rw[<-q];refine bS hK (HS iU (gU.Z (ae HC j B5))) λhS=>?_;clear hK x q gU r0;refine fQ ?_;clear hS;go_wp2;rw[ae HU];exact QS u aS rfl rfl ⟨p',c',j,PS.rep (PW.H B5) u af _ _ _ _ _ _ _ _,F5.low ((rT).h af),rfl,HO5.h (by have:=M.size;have:=Uy.size;omega),λz aP=>NC aP⟩
variable {K:Act->G->Prop}
theorem aR0{P:Program}{iZ:iE}(hw:jW o (yielded ops a.tmps)){f:FuncId} (ho:o.op=.call {callee:=.value (.func f),args:=#[x1,x2],argTypes:=ud})(h1:a.eval x1=v1)(h2:a.eval x2=v2)(lG:∀vs,(callFunc f vs).run P w=.ok (.enter f vs) w)(hc:dQ P f #[v1,v2] w R)(hR:∀e w',R e w'->∃v,e=dR v/\K (a.put o.dst v) w'):if jW o (yielded ops a.tmps)then Oper.wp P o a w K iZ else E:=by
 exact zs8
def ai3(ns:List au)(P:LI)(S E iG:Int):Int:=match kP ns P with
 |none=>0
 |some nd=>if nd.M=1/\nd.y.contains S/\nd.P=E/\nd.F=iG then 1 else 0
theorem eP0(w:G)(b bs bn:Nat)(D:SD)(SB NB HB UB:iN)(h:O (PS w0 w b bs bn D SB NB HB UB))(P:LI)(hB:O (aD P))(lr:O (Mg (J P)))(oW:O (∀nd∈D.N,aD nd.A))(id:Int)(hid:0<=id/\id<2^64)(E iG:Int)(N:Int)(eN:O (ai3 D.N P id E iG=N)):dQ dG 359 #[jP #[.U id,jJ (bg P),.U E,.U iG],Pz b] w (tg w0 w b bs bn D SB NB HB UB {iS with n:=N}):=by
 let⟨X,iY,hX,hY,bY,zX,zY,BX,RY⟩:=MW w #[.U id,jJ (bg P),.U E,.U iG] 313;have DZ:=h.be.size;have e:=ae eN;unfold ai3 at e;go_in
 go_wp21
 rw[<-hX,<-hY];refine Ga aS (λW eW=>?_);have nJ:=kH eW;let⟨PW,Uy⟩:=aQ (h.H (aj bY nJ)) nJ;have Tb:=(nJ.block (U (Q w)) af).Z BX;have c1:=cI Tb 1;let⟨GY,BXW⟩:=aQ RY Tb;obtain⟨-,-,-,-,-,k5,-⟩:=PW.oU;clear hX hY eW BX RY Tb nJ;cases hF:kP D.N P with
 |none=>
  rw[hF]at e;cases(by rw[<-e]:N=0);have gx:=PW.at5 hF hB oW (aM (ae lr));clear hF e
  repeat still_step
  refine qV ?_
  go_wp21
  clear gx c1 k5;let⟨vA,br⟩:=aF W.drew;have b2:=kH br;refine fw (λ_=>True) iH λhS=>?_;rw[<-br];clear br;refine fu 0 1 hS ?_;refine iT 2 3 4 5 hS ?_;refine sn 6 hS ?_;refine fu 7 8 hS ?_;refine iT 9 10 11 12 hS ?_;refine sn 13 hS ?_;refine fu 14 15 hS ?_;refine iT 16 17 18 19 hS ?_;refine sn 20 hS ?_;refine sn 21 hS ?_;refine sn 22 hS ?_;refine fu 23 24 hS ?_;refine iT 25 26 27 28 hS ?_;refine sn 29 hS ?_;refine sn 30 hS ?_;refine sn 31 hS ?_;refine tn 32 hS ?_;refine fQ ?_;clear hS;have P2:=ai (PW.H b2);have FY:=Fr.H (T:=T3) (aj Uy b2);have R2:=GY.T FY;have r0:=R2.cells;let⟨F2,Ur⟩:=aQ ((Fr.H (T:=T3) bY).Z FY) R2;clear FY R2 b2;go_wp2;exact Ju P2 F2 Ur DZ aS rfl rfl rfl
 |some nd=>
  rw[hF]at e;obtain⟨rfl,i,hi⟩:=Y5 hF;let⟨g,hh,uu,q1,q2,q3,hN⟩:=PW.nat hi;have gx:=PW.az0 hi q1 (aM (ae lr));have IX:=gJ hi q1 q2 q3;have E0:=ai e;clear hF e hi q1 q2 q3 hN
  repeat still_step
  refine qV ?_
  go_wp21
  clear gx c1 k5;have af8:=ai (λ(v:G)(hv:Bw W v)=>(PW.H hv).rV i nd g hh uu IX.1 IX.2.1 IX.2.2.1 IX.2.2.2);by_cases hm:nd.M=1;{
 have m1:(nd.M==1):=by simp[hm]
 change O _ at hm
 let⟨B,eB⟩:=cg (nd.y.contains id);obtain⟨V,-,-,-,-,g2,-,g4,g5,-⟩:=(ae af8 W db).cells;let⟨HS,Nl⟩:=aQ (λ(v:G)(hv:Bw W v)=>aE (aq g2 hv) (aE (aq g4 hv) (aE (aq g5 hv) (aE (aq (cI BXW 0) hv) (aE (aq (cI BXW 2) hv) (aq (cI BXW 3) hv)))))) (λ(vs:iA)(w:G)=>show(callFunc 340 vs).run dG w=.ok (.enter 340 vs) w by kernel_rfl);clear g2 g4 g5;cases B with
 |false=>
  have e':N=0:=by have:=ae E0;rw[ae eB]at this;rw[<-this];simp
  subst e';let⟨vA,br⟩:=aF W.drew;have bA:=kH br;refine fw (λw'=>I w' (Ad g 2)=dI nd.M/\I w' (Ad g 4)=dU nd.P/\I w' (Ad g 5)=dU nd.F/\I w' (Aw w 0)=dU id/\I w' (Aw w 2)=dU E/\I w' (Aw w 3)=dU iG) (br▸ae HS vA bA) λhS=>?_;rw[<-br]at hS⊢;have uF:=ai bA;clear br bA;refine gr 0 1 2 3 4 5 6 7 hS ?_;refine iy 8 9 10 11 hS ?_;refine tn 12 hS ?_;refine ry [13] ?_;refine cn (λKK hK=>?_) ?_;rotate_left;exact fN;rotate_right;refine aR0 aY aY aY aY (λ_=>ae Nl _ _) (J7 (ae af8 vA uF) hid eB) ?_;rintro r W2⟨rfl,eh⟩;refine fE ?_;have B5:=ai (aj uF eh);refine bS hK (HS W2 B5) λhS=>?_;clear hK KK eh;refine fu 14 15 hS ?_;refine iT 16 17 18 19 hS ?_;refine sn 20 hS ?_;refine sn 21 hS ?_;refine sn 22 hS ?_;refine fu 23 24 hS ?_;refine iT 25 26 27 28 hS ?_;refine sn 29 hS ?_;refine sn 30 hS ?_;refine sn 31 hS ?_;refine tn 32 hS ?_;refine fQ ?_;clear hS;have b2:=ae B5;have P2:=ai (PW.H b2);have FY:=Fr.H (T:=T3) (aj Uy b2);have R2:=GY.T FY;have r0:=R2.cells;let⟨F2,Ur⟩:=aQ ((Fr.H (T:=T3) bY).Z FY) R2;clear FY R2 b2;go_wp2;exact Ju P2 F2 Ur DZ aS rfl rfl rfl
 |true=>
  by_cases h4:nd.P=E;{
 have Po:(nd.P==E):=by simp[h4]
 by_cases h5:nd.F=iG;{
 have h5':(nd.F==iG):=by simp[h5]
 have e':N=1:=by have:=ae E0;rw[ae eB]at this;rw[<-this];simp[ae hm,h4,h5]
 exact zs3};{
 have h5':(nd.F==iG)=dF:=by simp[h5]
 have e':N=0:=by have:=ae E0;rw[ae eB]at this;rw[<-this];simp[h5]
 exact zs3}};{
 have Po:(nd.P==E)=dF:=by simp[h4]
 have e':N=0:=by have:=ae E0;rw[ae eB]at this;rw[<-this];simp[h4]
 subst e';clear h4;let⟨vA,br⟩:=aF W.drew;have bA:=kH br;refine fw (λw'=>I w' (Ad g 2)=dI nd.M/\I w' (Ad g 4)=dU nd.P/\I w' (Ad g 5)=dU nd.F/\I w' (Aw w 0)=dU id/\I w' (Aw w 2)=dU E/\I w' (Aw w 3)=dU iG) (br▸ae HS vA bA) λhS=>?_;rw[<-br]at hS⊢;have uF:=ai bA;clear br bA;refine gr 0 1 2 3 4 5 6 7 hS ?_;refine iy 8 9 10 11 hS ?_;refine tn 12 hS ?_;refine ry [13] ?_;refine cn (λKK hK=>?_) ?_;rotate_left;exact fN;rotate_right;refine aR0 aY aY aY aY (λ_=>ae Nl _ _) (J7 (ae af8 vA uF) hid eB) ?_;rintro r W2⟨rfl,eh⟩;refine fE ?_;have B5:=ai (aj uF eh);refine bS hK (HS W2 B5) λhS=>?_;clear hK KK eh;refine gr 14 15 16 17 18 19 20 21 hS ?_;refine fu 22 23 hS ?_;refine tn 24 hS ?_;refine iT 25 26 27 28 hS ?_;refine sn 29 hS ?_;refine sn 30 hS ?_;refine sn 31 hS ?_;refine tn 32 hS ?_;refine fQ ?_;clear hS;have b2:=ae B5;exact bN8}};{
 have m1:(nd.M==1)=dF:=by simp[hm]
 have e':N=0:=by have:=ae E0;rw[<-this];simp[hm]
 subst e';clear hm;let⟨vA,br⟩:=aF W.drew;have b2:=kH br;obtain⟨V,-,-,-,-,g2,-⟩:=(ae af8 vA b2).cells;refine fw (λw'=>I w' (Ad g 2)=dI nd.M) (br▸g2) λhS=>?_;rw[<-br]at hS⊢;clear br;refine gr 0 1 2 3 4 5 6 7 hS ?_;refine tn 8 hS ?_;refine iT 9 10 11 12 hS ?_;refine sn 13 hS ?_;refine fu 14 15 hS ?_;refine iT 16 17 18 19 hS ?_;refine sn 20 hS ?_;refine sn 21 hS ?_;refine sn 22 hS ?_;refine fu 23 24 hS ?_;refine iT 25 26 27 28 hS ?_;refine sn 29 hS ?_;refine sn 30 hS ?_;refine sn 31 hS ?_;refine tn 32 hS ?_;refine fQ ?_;clear hS;exact bN8}
theorem cv6(h:J l=1)(s:Int):l.headD 0=s↔l.contains s:=by
 match l,h with
 |[y],_=>
  simp;exact⟨λe=>e.C,λe=>e.C⟩
theorem dt2(h:nd.M=1->J nd.y=1):Yz nd s=if nd.M=1/\nd.y.headD 0≠s then 9 else 0:=by
 unfold Yz;by_cases hm:nd.M=1;{have:=cv6 (h hm) s;by_cases hc:nd.y.contains s=dY;{rw[aJ (by rw[hc];simp),aJ (λe=>e.2 (this.2 hc))]};{rw[aK ⟨hm,by simpa using hc⟩,aK ⟨hm,λe=>hc (this.1 e)⟩]}};{rw[aJ (λe=>hm e.1),aJ (λe=>hm e.1)]}
variable {S E:Int}
theorem eO7(h:∀nd∈ns,nd.M=1->J nd.y=1):ai3 ns P S E iG=PX ns P S E iG:=by
 unfold ai3 PX;cases hF:kP ns P with
 |none=>rfl
 |some nd=>
  have hm:=h nd (Zg hF);by_cases i:nd.M=1;{have:=cv6 (hm i) S;simp only[i,Ef,this]};{simp[i]}
theorem dM8(o:D.N[k]?=nd)(h:Di D nd s F≠0):Ag D k s F=(D,lD (Di D nd s F)):=by
 unfold Di at h⊢;simp only[Ag,o];generalize nd.y.contains s=B at h⊢;cases B;{by_cases j:F=2;{by_cases i:nd.M=1;{simp[j,i]};{simp[j,i]at h}};{by_cases i:nd.M=0;{by_cases m:4611686018427387904<=D.g;{simp[j,i,m]};{simp[j,i,m]at h}};{simp[j,i]}}};{simp}
theorem cj8(hk:D.N[k]?=nd)(h:Di D nd s 2=0):Ag D k s 2=({D with N:=D.N.set k {nd with M:=2,y:=me nd.y s}},iS):=by
 unfold Di at h;simp only[Ag,hk];generalize nd.y.contains s=B at h⊢;cases B;{by_cases h3:nd.M=1;{simp[h3]at h};{simp[h3]}};{simp at h}
theorem cj9(hk:D.N[k]?=nd)(hh:nd.M=0->nd.y=[])(h:Di D nd s 1=0):Ag D k s 1=({D with g:=D.g+1,N:=D.N.set k {nd with M:=1,y:=me nd.y s,P:=D.e,F:=D.g+1}},{iS with e:=D.e,g:=D.g+1})/\D.g<2^62:=by
 unfold Di at h;simp only[Ag,hk];generalize nd.y.contains s=B at h⊢;cases B;{by_cases h3:nd.M=0;{by_cases h4:4611686018427387904<=D.g;{simp[h3,h4]at h};{refine⟨?_,af⟩;rw[hh h3];simp[h3,h4,me]}};{simp[h3]at h}};{simp at h}
theorem eL5(h:MO D P≠0):Fo D P V S F=(D,lD (MO D P)):=by
 unfold MO at h⊢;unfold Fo;by_cases i:(kP D.N P).isSome=dY;{simp[i]};{by_cases j:qG D.N (iV P)=dF;{simp[i,j]};{by_cases m:200<=J D.N;{simp[i,j,m]};{simp[i,j,m]at h}}}
theorem cK8(h:MO D P=0):Fo D P V S F=({D with N:=rF (rU P V (if F=1 then S else 0)) D.N},iS)/\kP D.N P=dN/\J D.N<200:=by
 unfold MO at h;unfold Fo;by_cases h1:(kP D.N P).isSome=dY;{simp[h1]at h};{by_cases h2:qG D.N (iV P)=dF;{simp[h1,h2]at h};{by_cases h3:200<=J D.N;{simp[h1,h2,h3]at h};{exact⟨by simp[h1,h2,h3],by simpa using h1,af⟩}}}
theorem dF9(h:Ln D≠0):yE D=(D,lD (Ln D)):=by
 unfold Ln at h⊢;unfold yE;by_cases i:50<=J D.E;{simp[i]};{by_cases j:4611686018427387904<=D.x;{simp[i,j]};{simp[i,j]at h}}
theorem cd5(h:Ln D=0):yE D=({D with x:=D.x+1,E:=D.E++[(D.x+1,D.t+10,[])]},{iS with i:=D.x+1,n:=D.t+10})/\J D.E<50/\D.x<2^62:=by
 unfold Ln at h;unfold yE;by_cases h1:50<=J D.E;{simp[h1]at h};{by_cases h2:4611686018427387904<=D.x;{simp[h1,h2]at h};{exact⟨by simp[h1,h2],af,af⟩}}
def NJ(K:Int):Bool:=(K==5||(K==6||(K==7||(K==8||(K==9||(K==11||K==13))))))
theorem cg2(h1:1<=k)(h2:k<=13):dQ dG 258 #[.I (k:Int)] w λr w'=>r=dR (jO (NJ k))/\w'=w:=by
 have h:k=1\/k=2\/k=3\/k=4\/k=5\/k=6\/k=7\/k=8\/k=9\/k=10\/k=11\/k=12\/k=13:=af;clear h1 h2;obtain rfl|rfl|rfl|rfl|rfl|rfl|rfl|rfl|rfl|rfl|rfl|rfl|rfl:=h
 all_goals
  go_in;exact aV
def Gd(D:SD)(K:Int)(P:LI):Int:=if BG K P then 0 else if vp P=dF then 4 else if NJ K/\(kP D.N P).isNone then 5 else 0
theorem eO9{SB NB HB UB:iN}(h:O (PS w0 w b bs bn D SB NB HB UB))(oW:O (∀nd∈D.N,aD nd.A))(h1:1<=k)(h2:k<=13)(s:Le P np)(o:O (Rd w (.S pp np cp) P))(V:O (aD P))(hp:np<=2^20)(gm:np<=cp)(im:O (cp<=maxLen))(hm:O (∃m,I w (Ad 2 0)=dI m))(eC:O (Gd D k P=C)):dQ dG 238 #[Pz b,nI k S (.S pp np cp) F (.S pq nv cv) E iG] w (Rb (sC C) w):=by
 obtain⟨X,hX,bX,zX,CX,-⟩:=cR w #[.I (k:Int),.U S,.S pp np cp,.I F,.S pq nv cv,.U E,.U iG] 54;have hcv:=λ(ob:Obj)=>vz s (o.H ((bD (U (Q w)) w).alloc aU ob));have N:((bg P).toList==(bg [47]).toList)=dD (P=[47]):=Qa V (by intro y hy;simp at hy;omega);rw[show(bg [47]).toList=[47]from DR [47]]at N;have e:=ae eC;unfold Gd BG at e;let⟨st,u⟩:=cg (bg P);rw[ae u]at N;simp only[ae u]at hcv;by_cases j:(k:Int)=13/\P=[47];{cases(by rw[<-e];simp[j.1,j.2]:C=0);go_in;exact aV};{
 have e1:(if vp P=dF then 4 else if NJ k/\(kP D.N P).isNone then 5 else 0)=C:=by
  rw[<-e];have:(dD ((k:Int)=13)&&dD (P=[47]))=dF:=by simpa using j
  rw[this];simp
 have E1:=ai e1;have ed5:∃t,O (((k:Int)==13)=t/\(t->(st.toList==[47])=dF)):=⟨_,ai ⟨rfl,λR=>by rw[N];simp at R;simpa using λo=>j ⟨af,o⟩⟩⟩
 obtain⟨t,R⟩:=ed5;let⟨B,eB⟩:=cg (vp P);clear e e1 j N;go_in;cases t
 all_goals
  let⟨e13,cK⟩:=ae R
  try have fu8:=cK rfl
  clear cK
  go_wp21
  rw[<-hX];refine cL (bh3 s (o.H bX) V hp gm im (hm.imp λm hm=>aq hm bX) eB) λw2 aA=>?_;have UK:=CX.dt (w':=w2) (aA.block _ af);have B2:=ai (aj bX aA);have e:=ae E1;rw[ae eB]at e;cases B;{cases(by rw[<-e];rfl:C=4);exact aV};{
 have e2:(if NJ k/\(kP D.N P).isNone then 5 else 0)=C:=by simpa using e
 have E2:=ai e2
 go_wp21
 refine Ga aS (λW eW=>?_);have bW:Bw w W:=eW▸B2.drew;have M:=ai (h.H bW);obtain⟨-,-,-,-,-,k5,-⟩:=M.oU;have CW:=UK.dt (w':=W) (by rw[eW];rfl);have c0:=CW.1 0 _ rfl;have c2:=CW.1 2 _ rfl;have hcv:=vz s (o.H bW);rw[ae u]at hcv;clear eW CW UK;cases hF:kP D.N P with
 |none=>
  have Z:=M.at5 hF V oW (by rw[ae s];omega);rw[ae u]at Z;have e:=ae E2;rw[hF]at e;clear hF
  repeat still_step
  refine qV ?_
  go_wp21
  refine(cg2 h1 h2).h ?_;rintro r w5⟨rfl,rfl⟩;let⟨T,x⟩:=bu (NJ k);rw[x]at e⊢;clear x;cases T;{cases(by rw[<-e];simp:C=0);exact aV};{cases(by rw[<-e];simp:C=5);exact aV}
 |some nd=>
  obtain⟨rfl,i,hi⟩:=Y5 hF;obtain⟨g1,Cm,u1,q1,-,-,hN⟩:=M.nat hi;have Z:=M.az0 hi q1 (by rw[ae s];omega);rw[ae u]at Z;have e:=ae E2;rw[hF]at e;cases(by rw[<-e];simp:C=0)
  repeat still_step
  refine qV ?_
  go_wp21
  refine(cg2 h1 h2).h ?_;rintro r w5⟨rfl,rfl⟩;let⟨T,x⟩:=bu (NJ k);rw[x];cases T;{exact aV};{exact aV}}}
theorem PS.okS{SB NB HB UB:iN}(h:PS w0 w b bs bn D SB NB HB UB)(hr:0<=S/\S<2^64):∃v,(Instr.lookup 185 (.map bs) (.U S) dY).run dG w=.ok (dT #[dP v,jO (dD (0<=mj D.E S))]) w:=by
 obtain⟨M,n,o,-,m,-⟩:=h.vY;let⟨v,ps,j,r⟩:=o.look_ok oO underlying185 (bO1 (w:=w)) (zd:=.nil) (zp:=[]) rfl (key:=.U S) (keyOf_int_mk underlying27 (FR hr));by_cases x:mj D.E S<0;{
 have N:Maps.has M (.U S)=dF:=by
  rw[Gj];intro e;let⟨p,B,R⟩:=(m.hs _).1 e;obtain⟨i,s,y,V,hy,rfl⟩:=AY B;simp only[NR,Ef]at R;unfold mj at x;cases hf:D.E.findIdx? (λs=>s.1==S)with
  |some k=>rw[hf]at x;simp at x;omega
  |none=>
   have:=av0.1 hf s (bq V);simp[R]at this
 rw[Maps.atKey_of_not_has N]at r;obtain rfl:=aV7 r;refine⟨dN,?_⟩;rw[j,N,show dD (0<=mj D.E S)=dF by simp;omega]};{
 let⟨k,s,q,E⟩:=aU1 x;obtain⟨g,W,-⟩:=h.sat E;have es:s.1=S:=by
  unfold mj at q;cases hf:D.E.findIdx? (λs=>s.1==S)with
  |none=>rw[hf]at q;simp at q
  |some k'=>
   rw[hf]at q;simp at q;obtain⟨Z,X,-⟩:=Oe.1 hf;obtain rfl:k'=k:=af;have:D.E[k']=s:=by rw[bN Z]at E;simpa using E
   rw[<-this];simpa using X
 subst es;have B:(Lit.U s.1,g)∈jZ (λ(s:aB)g=>(Lit.U s.1,g)) D.E SB:=bq (i:=k) (by rw[tA,E,W]);rw[m.at' _ B]at r;cases Vr r;refine⟨Y (Ad g 0),?_⟩;rw[j,(m.hs _).2 ⟨_,B,rfl⟩,show dD (0<=mj D.E s.1)=dY by simp;omega]}
def yX(D:SD)(i j B:Bool)(K S:Int)(P:LI):Int:=if B=dF then 2 else if i/\mj D.E S<0 then 3 else if j then Gd D K P else 0
theorem eN5{SB NB HB UB:iN}(h:O (PS w0 w b bs bn D SB NB HB UB))(oW:O (∀nd∈D.N,aD nd.A))(h1:1<=k)(h2:k<=13)(hS:0<=S/\S<2^64)(eP:Le P np)(hP:O (Rd w (.S pp np cp) P))(hB:O (aD P))(hp:np<=2^20)(gm:np<=cp)(im:O (cp<=maxLen))(hm:O (∃m,I w (Ad 2 0)=dI m)){i j:Bool}{R Z vs:Int}{N jo:Bool}(hT:O (KE w 0 (k*7) i j R Z vs N jo)){B:Bool}(eB:O (Fc i j R Z vs N S F np nv E iG=B))(eC:O (yX D i j B k S P=C)):dQ dG 198 #[Pz b,nI k S (.S pp np cp) F (.S pq nv cv) E iG] w (Rb (sC C) w):=by
 obtain⟨X,hX,bX,zX,CX,-⟩:=cR w #[.I (k:Int),.U S,.S pp np cp,.I F,.S pq nv cv,.U E,.U iG] 54;have e:=ae eC;unfold yX at e;have i3:(k:Int)<14:=af;have i5:=gS 0 k;go_in
 go_wp21
 rw[<-hX];refine cL (aN3 h1 h2 (hT.H bX) eB) λw2 y=>?_;have UK:=CX.dt (w':=w2) (y.block _ af);have B2:=ai (aj bX y);clear y hX CX;cases B;{cases(by rw[<-e];rfl:C=2);clear e;exact aV};{
 have e2:(if i/\mj D.E S<0 then 3 else if j then Gd D k P else 0)=C:=by simpa using e
 have E2:=ai e2;clear e e2
 go_wp21
 refine Ga aS (λW x=>?_);have s:Bw w W:=x▸B2.drew;have M:=ai (h.H s);obtain⟨-,-,-,-,k4,-,-⟩:=M.oU;have CW:=UK.dt (w':=W) (by rw[x];rfl);let⟨c0,c1,c2,c3,c4,c5,c6⟩:=Qe CW.1;obtain⟨t0,t1,-⟩:=hT.H s;let⟨v,gx⟩:=M.okS (S:=S) hS;obtain⟨T,eT⟩:∃T,O (dD (0<=mj D.E S)=T):=⟨_,rfl⟩;rw[ae eT]at gx;have e:=ae E2;have r:(mj D.E S<0)↔T=dF:=by rw[<-ae eT];simp
 simp only[r]at e;clear x CW UK r
 repeat still_step
 refine qV ?_;clear gx k4;by_cases u:i/\T=dF;{obtain⟨rfl,rfl⟩:=u;cases(by rw[<-e];simp:C=3);clear e;exact aV};{
 have o:(if j then Gd D k P else 0)=C:=by rw[aJ u]at e;exact e
 have E3:=ai o;clear e o;have Ie:(i=dF/\T=dF)\/(i=dF/\T)\/(i/\T):=by cases i<;>cases T<;>simp at u⊢
 clear u;obtain⟨rfl,rfl⟩|⟨rfl,rfl⟩|⟨rfl,rfl⟩:=Ie
 all_goals
  cases j;{cases(by have:=ae E3;rw[<-this];rfl:C=0);exact aV};{
 have o:Gd D k P=C:=by have:=ae E3;rw[aK rfl]at this;exact this
 change O _ at o
 go_wp21
 refine cL (eO9 M oW h1 h2 eP (hP.H s) hB hp gm im (hm.imp λm hm=>aq hm s) o) λw9 V=>?_;have B9:=ai (aj s V);clear V;exact aV}}}
def bZ8(k:Nat)(S:Int)(st:ByteArray)(F:Int)(V:dV)(E iG:Int):dV:=match k with
 |1=>.iface 296 (jP #[])
 |2=>.iface 299 (jP #[jK jU S])
 |3=>.iface 300 (jP #[jK jU S])
 |4=>.iface 302 (jP #[jK jU S,jJ st,jO (F==1),V])
 |5=>.iface 304 (jP #[jK jU S,jJ st])
 |6=>.iface 306 (jP #[jJ st])
 |7=>.iface 308 (jP #[jK jU S,jJ st,V])
 |8=>.iface 310 (jP #[jK jU S,jJ st,jK jV F])
 |9=>.iface 311 (jP #[jK jU S,jJ st])
 |10=>.iface 313 (jP #[jK jU S,jJ st,jK jU E,jK jU iG])
 |11=>.iface 315 (jP #[jK jU S,jJ st])
 |12=>.iface 316 (jP #[jK jU S])
 |_=>.iface 317 (jP #[jJ st])
theorem dy9(u:1<=k)(s:k<=13)(o:Le P np)(m:O (Rd w (.S pp np cp) P)):dQ dG 199 #[nI k S (.S pp np cp) F (.S pq nv cv) E iG] w (Rb (bZ8 k S (bg P) F (.S pq nv cv) E iG) w):=by
 have hcv:=λ(i r:Obj)=>vz o (m.H (((bD (U (Q w)) w).alloc aU i).alloc al r));have j:=λ(i:Obj)=>vz o (m.H ((bD (U (Q w)) w).alloc aU i));let⟨st,q⟩:=bu (bg P);simp only[q]at hcv j⊢;clear q;have h:k=1\/k=2\/k=3\/k=4\/k=5\/k=6\/k=7\/k=8\/k=9\/k=10\/k=11\/k=12\/k=13:=af;clear u s;obtain rfl|rfl|rfl|rfl|rfl|rfl|rfl|rfl|rfl|rfl|rfl|rfl|rfl:=h
 all_goals
  go_in;go_wp2;go_ret;exact⟨rfl,((bD (U (Q w)) w).alloc aU _).alloc al _⟩
theorem eN6{K:Int}(hK:K<1\/13<K):dQ dG 198 #[Pz b,nI K S (.S pp np cp) F (.S pq nv cv) E iG] w (Rb (sC 2) w):=by
 obtain⟨X,i,m,r,o,-⟩:=cR w #[.I K,.U S,.S pp np cp,.I F,.S pq nv cv,.U E,.U iG] 54
 change O _ at hK
 go_in
 go_wp21
 rw[<-i];refine cL (bP9 hK) λs j=>?_;have u:=ai (aj m j);clear j i o;exact aV
theorem KD.of(h:AW ss ns):KD ns:=λi j a c o hc e=>by
 have q:a.A=c.A:=Oj (h.n2 a (bq o)).1 (h.n2 c (bq hc)).1 e;obtain m|m|m:=Og i j;{exact absurd q (h.n3 i j a c o hc m)};{exact m};{exact absurd q.C (h.n3 j i c a hc o m)}
theorem at3(h:(jR (J ns)).all (wF e g ss ns))(j:ns[i]?=nd):qW e g nd.M (J nd.y) nd.P nd.F/\sS ss nd.y/\sS ss nd.X:=by
 have:=mL.1 h i (by simpa using((bH.1 j).1));unfold wF at this;rw[ko,j]at this;simp only[tv,gP]at this;exact⟨this.2.2.2.2.2.2,this.2.2.2.2.1,this.2.2.2.2.2.1⟩
theorem ax1{ids:LI}(h:sS ss ids):∀x∈ids,∃s∈ss,s.1=x:=λx m=>by
 let⟨i,j⟩:=lh.1 m;have:=mL.1 h i (by simpa using(bH.1 j).1);unfold L6 live at this;rw[ko,j]at this;simp only[tv,gP,VU]at this;let⟨s,o,e⟩:=this.1;exact⟨s,o,by simpa using e⟩
theorem av7(h:qW e g mo nh ep ge)(hm:mo=1):nh=1:=by
 unfold qW at h;rw[aK hm]at h;simp at h;exact h.1
theorem bd9(h:qW e g mo nh ep ge)(hm:mo≠1):ep=0/\ge=0/\(mo=0->nh=0):=by
 unfold qW at h;rw[aJ hm]at h;simp only[gP,Gi]at h;refine⟨h.1,h.2.1,λi=>?_⟩;have:=h.2.2;rw[aK i]at this;simpa using this
theorem NT.of(hF:AW ss ns)(h:(jR (J ns)).all (wF e g ss ns))(j:ns[i]?=nd):NT ss nd:=by
 let⟨a,b,c,d,f,k,m⟩:=hF.n2 nd (bq j);exact⟨a,b,m,f,ax1 (at3 h j).2.2⟩
structure CI(ss:List aB)(ns:List au):Prop where
 so:tX ss
 nt:∀nd∈ns,NT ss nd/\nd.y.Pairwise (·<·)/\J nd.y<=2^20
 kd:KD ns
theorem NT.ids(h:NT ss nd)(o:ss'.map (·.1)=ss.map (·.1)):NT ss' nd:=
 ⟨h.Xg,h.pl,h.Nq,h.Nu,λi q=>by let⟨j,s,m,e⟩:=cg9 o (h.U8 i q);exact⟨s,bq m,e⟩⟩
theorem tX.tell(ev:Ev):∀(ids:LI){ss:List aB},tX ss->tX (yz ss ids ev)
 |[],ss,h=>h
 |a::r,ss,h=>tX.tell ev r (h.aC7 a ev)
theorem KD.erase(h:KD ns)(k:Nat):KD (jX ns k):=λi j a c m hc e=>by
 rw[ba6]at m hc;by_cases q:i<k<;>by_cases o:j<k
 {rw[aK q]at m;rw[aK o]at hc;exact h i j a c m hc e};{rw[aK q]at m;rw[aJ o]at hc;have:=h i (j+1) a c m hc e;omega};{rw[aJ q]at m;rw[aK o]at hc;have:=h (i+1) j a c m hc e;omega};{rw[aJ q]at m;rw[aJ o]at hc;have:=h (i+1) (j+1) a c m hc e;omega}
theorem KD.paths(h:KD ns)(r:ns'.map (·.A)=ns.map (·.A)):KD ns':=λi j a c q hc e=>by
 have key:∀(i:Nat)(a:au),ns'[i]?=Y a->∃o,ns[i]?=Y o/\o.A=a.A:=λi a q=>by
  have m:(ns'.map (·.A))[i]?=a.A:=by rw[qU,q];rfl
  rw[r,qU]at m;cases hn:ns[i]? with
  |none=>rw[hn]at m;cases m
  |some o=>rw[hn]at m;exact⟨o,rfl,by simpa using m⟩
 let⟨o,m,x⟩:=key i a q;let⟨y,s,u⟩:=key j c hc;exact h i j o y m s (by rw[x,u,e])
theorem Vg(j:ns[k]?=nd)(i:nd'.A=nd.A):(ns.set k nd').map (·.A)=ns.map (·.A):=by
 rw[VK,i];exact Js (by rw[qU,j];rfl)
theorem CI.cw(h:CI ss ns)(id:Int):CI ss (ns.map (tT id)):=by
 refine⟨h.so,λu s=>?_,h.kd.paths (by rw[uI];rfl)⟩;obtain⟨y,m,rfl⟩:=fM.1 s;let⟨j,r,q⟩:=h.nt y m;exact⟨⟨j.Xg,j.pl,Ns j.Nq,gq (Nt) j.Nu,λi o=>j.U8 i (Jl.1 o).1⟩,r,q⟩
theorem CI.set(h:CI ss ns)(y:ns[k]?=nd)(B:tX ss')(m:ss'.map (·.1)=ss.map (·.1))(s:nd'.A=nd.A)(r:nd'.X=nd.X\/nd'.X=[])(D:nd'.y.Pairwise (·<·)/\J nd'.y<=2^20):CI ss' (ns.set k nd'):=by
 refine⟨B,λx q=>?_,h.kd.paths (Vg y s)⟩;obtain q|rfl:=NU q;{let⟨j,E⟩:=h.nt x q;exact⟨j.ids m,E⟩};{
 obtain⟨j,-⟩:=h.nt nd (bq y);refine⟨NT.ids ⟨by rw[s];exact j.Xg,by rw[s];exact j.pl,?_,?_,?_⟩ m,D⟩;{
 obtain e|e:=r<;>rw[e]
 {exact j.Nq};{exact List.Pairwise.nil}};{
 obtain e|e:=r<;>rw[e]
 {exact j.Nu};{simp}};{
 obtain e|e:=r<;>rw[e]
 {exact j.U8};{intro i m;cases m}}}
theorem CI.tell(h:CI D.E D.N)(hk:D.N[k]?=nd)(kd:Int):CI (ly D k kd).E (ly D k kd).N/\(ly D k kd).N.map (·.A)=D.N.map (·.A)/\(ly D k kd).E.map (·.1)=D.E.map (·.1)/\(ly D k kd).N[k]?=Y {nd with X:=[]}:=by
 unfold ly;rw[hk];refine⟨h.set hk (tX.tell _ _ h.so) (Yi _ _ _) rfl (.R rfl) (h.nt nd (bq hk)).2,Vg hk rfl,Yi _ _ _,uV hk _⟩
theorem CI.drop(h:CI D.E D.N)(hk:D.N[k]?=nd)(id:Int):CI (kV D k id).E (kV D k id).N/\(kV D k id).N.map (·.A)=D.N.map (·.A)/\(kV D k id).E.map (·.1)=D.E.map (·.1)/\∃i,(kV D k id).N[k]?=Y i/\i.D=nd.D/\i.A=nd.A:=by
 unfold kV;rw[hk];let⟨y,x,s⟩:=h.nt nd (bq hk);by_cases hc:nd.y.contains id=dY;{
 simp only[hc,qR];by_cases he:lZ nd.y id=[];{simp only[he,qR];let⟨r,q,m,j⟩:=CI.tell (D:={D with N:=D.N.set k {nd with y:=[],M:=0,P:=0,F:=0}}) (h.set hk h.so rfl rfl (.L rfl) ⟨List.Pairwise.nil,al⟩) (uV hk {nd with y:=[],M:=0,P:=0,F:=0}) 3;exact⟨r,q.Z (Vg hk rfl),m,_,j,rfl,rfl⟩};{
 simp only[he,BK];refine⟨h.set hk h.so rfl rfl (.L rfl) ⟨Ns x,gq (Nt) s⟩,Vg hk rfl,?_,_,uV hk _,rfl,rfl⟩
 first|trivial|rfl}}
 {simp only[hc];exact⟨h,rfl,rfl,nd,hk,rfl,rfl⟩}
theorem CI.rm(h:CI D.E D.N)(k:Nat):CI (xD D k).E (xD D k).N:=⟨h.so,λi j=>h.nt i (N9 j),h.kd.erase k⟩
theorem cJ7{α:Type}{l:List α}(i:k<J l):jD k (jX l k)=jD (k+1) l:=by
 rw[List.eraseIdx_eq_take_drop_succ,List.drop_append,List.drop_take];simp[show min k (J l)=k by omega]
variable {s:aB}
theorem dI9(h:tX ss)(m:ss[i]?=s):Ed s.1 ss=jX ss i:=by
 have Z:∀(j:Nat)(z:aB),ss[j]?=Y z->z.1=s.1->j=i:=λj z x e=>by have V:=H6.1 h.pw;let⟨S,N⟩:=bH.1 m;let⟨R,M⟩:=bH.1 x;obtain B|B|B:=Og i j;{have:=V i j S R B;rw[N,M]at this;omega};{exact B.C};{have:=V j i R S B;rw[N,M]at this;omega}
 have key:∀(l:List aB)(i:Nat),l[i]?=s->(∀(j:Nat)(z:aB),l[j]?=Y z->z.1=s.1->j=i)->Ed s.1 l=jX l i:=by
  intro l
  induction l with
  |nil=>intro i m;simp at m
  | cons y r ih=>
   intro i m E;cases i with
   |zero=>
    simp at m;subst m;rw[List.eraseIdx_cons_zero,Ed,List.filter_cons,aJ al,List.filter_eq_self.2];intro z W;let⟨j,x⟩:=lh.1 W;have:=E (j+1) z (by simpa using x);by_cases e:z.1=y.1;{have:=this e;omega};{simp[e]}
   |succ i=>
    have X:¬y.1=s.1:=λe=>aM (E 0 y al e);rw[List.eraseIdx_cons_succ,Ed,List.filter_cons,aK (by simp[X]),<-Ed,ih i (by simpa using m) (λj z x e=>aM (E (j+1) z (by simpa using x) e))]
 exact key ss i m Z
def D6(f:au->au)(left:Lit->Bool)(ns:List au):List au:=ns.map λs=>if left (ft s.A)then s else f s
theorem bQ9(h:∀s∈ns,left (ft s.A)):D6 f left ns=ns:=by
 unfold D6;rw[RM (g:=id) (λs i=>by rw[aK (h s i)];rfl),bd1]
theorem bR0(h:∀k,left k=dF):D6 f left ns=ns.map f:=by
 unfold D6;exact RM λs _=>by rw[aJ (by rw[h];simp)]
theorem bR1{ss:List au}{s:au}(j:ss[i]?=s)(m:left (ft s.A)):(D6 f left ss)[i]?=s:=by
 unfold D6;rw[qU,j,JE,aK m]
theorem bQ8(r:KD ns){s:au}(m:ns[i]?=s):(D6 f left ns).set i (f s)=D6 f (λz=>left z&&!z.sameKey (ft s.A)) ns:=by
 refine Ru λj=>?_;unfold D6;rw[vG,qU,qU,iC];by_cases q:i=j;{subst q;have o:(ft s.A).sameKey (ft s.A):=au7 (by unfold ft;trivial);rw[aK rfl,aK (bH.1 m).1,m];simp[o]};{
 rw[aJ q];cases hj:ns[j]? with
 |none=>rfl
 |some z=>
  have u:ft z.A≠ft s.A:=λe=>q (r i j s z m hj e.C);simp[sameKey_ne u]}
theorem PS.iter{SB NB HB UB:iN}(h:PS w0 w b bs bn D SB NB HB UB)(iO:One w0 w w' z)(n1:∀cs ty,w.heap[z]?≠Y (dO cs ty))(n2:∀es c,w.heap[z]?≠Y (.map es c)):PS w0 w' b bs bn D SB NB HB UB:=by
 have i:∀{y:Nat}{cs:iA}{ty:TypeId},w.heap[y]?=dO cs ty->y≠z:=λm e=>n1 _ _ (e▸m);have nm:∀{y:Nat}{es:Array MapEntry}{c:Nat},w.heap[y]?=Y (.map es c)->y≠z:=λm e=>n2 _ _ (e▸m);refine⟨h.be.Z iO.b,iO.obj h.hd (i h.hd),h.vZ,?_,λj E Z x s=>?_,h.snd,h.xJ,h.hlen,h.zI,?_,λj N X W B x s h1 h2=>?_,h.Hy,h.lo,h.xt⟩;{let⟨M,n,o,r⟩:=h.vY;exact X6};{have q:=h.vy j E Z x s;obtain⟨-,u,h1,-⟩:=id q;exact q.W iO (i h1)};{let⟨M,n,o,r⟩:=h.sP;exact X6};{have q:=h.rV j N X W B x s h1 h2;obtain⟨-,⟨V,q1,-⟩,q3,q4⟩:=id q;let⟨es,c,S⟩:=q3.at;let⟨Mz,c',R⟩:=q4.at;exact q.W iO (i q1) (nm S) (nm R)}
theorem PS.blt{SB NB HB UB:iN}(h:PS w0 w b bs bn D SB NB HB UB):∀z∈PL b bs bn SB NB HB UB,z<U (Q w):=λz j=>by
 simp only[PL,gD,jl]at j;have key:∀{l:iN}{i:Nat},J l=J D.N->l[i]?=Y z->∃nd,D.N[i]?=Y nd:=λB hi=>⟨_,bN (by rw[<-B];exact(bH.1 hi).1)⟩;obtain rfl|rfl|rfl|j|j|j|j:=j;{exact gQ h.hd};{obtain⟨M,n,o,-⟩:=h.vY;exact o.lt};{obtain⟨M,n,o,-⟩:=h.sP;exact o.lt};{let⟨i,hi⟩:=lh.1 j;obtain⟨s,hs⟩:∃s,D.E[i]?=Y s:=⟨_,bN (by rw[<-h.vZ];exact(bH.1 hi).1)⟩;obtain⟨-,u,hc,-⟩:=h.vy i s z hs hi;exact gQ hc};{let⟨i,hi⟩:=lh.1 j;let⟨nd,q⟩:=key h.xJ hi;let⟨g,hh,uu,y,x,r,m⟩:=h.nat q;rw[hi]at y;cases y;obtain⟨V,E,-⟩:=m.blk;exact gQ E};{let⟨i,hi⟩:=lh.1 j;let⟨nd,q⟩:=key h.hlen hi;let⟨g,hh,uu,y,x,r,m⟩:=h.nat q;rw[hi]at x;cases x;let⟨es,c,hm⟩:=m.Ey.at;exact gQ hm};{let⟨i,hi⟩:=lh.1 j;let⟨nd,q⟩:=key h.zI hi;let⟨g,hh,uu,y,x,r,m⟩:=h.nat q;rw[hi]at r;cases r;let⟨es,c,hm⟩:=m.CG.at;exact gQ hm}
theorem One.ofI(s:Bw w0 w)(j:jG w w' z)(o:U (Q w0)<=z)(r:∀i ty m,w.heap[z]?≠Y (dO i ty m)):One w0 w w' z:=
 ⟨(bD (U (Q w0)) w).grown j s.size (λb e=>by cases e;exact o),λy q u=>j.block y q (λe=>u (by cases e;rfl)),λi ty m hc=>absurd hc (r i ty m)⟩
theorem ez5{SB NB HB UB:iN}(h:∀z∈PL b bs bn SB NB HB UB,z∈L):∀z∈PL b bs bn SB (jX NB k) (jX HB k) (jX UB k),z∈L:=λz i=>h z (by
 simp only[PL,gD,jl]at i⊢;obtain h|h|h|h|h|h|h:=i;{exact .L h};{exact .R (.L h)};{exact .R (.R (.L h))};{exact .R (.R (.R (.L h)))};{exact .R (.R (.R (.R (.L (N9 h)))))};{exact .R (.R (.R (.R (.R (.L (N9 h))))))};{exact .R (.R (.R (.R (.R (.R (N9 h))))))})
theorem ch3{α β:Type}(f:α->β):∀(l:List α)(k:Nat),(jX l k).map f=jX (l.map f) k
 |[],k=>al
 |a::r,0=>al
 |a::r,k+1=>by simp[ch3 f r k]
theorem dC9(h:jD i (ns.map (·.A))=jD j PP)(o:PP[j]?=P):∃nd,ns[i]?=Y nd/\nd.A=P:=by
 have m:(jD j PP)[0]?=P:=by rw[NK];simpa using o
 rw[<-h,NK,Ek,qU]at m;cases hn:ns[i]? with
 |none=>rw[hn]at m;cases m
 |some nd=>rw[hn]at m;exact⟨nd,rfl,by simpa using m⟩
theorem cd0{α:Type}{l m:List α}(h:jD i l=jD j m):jD (i+1) l=jD (j+1) m:=by
 have q:jD (i+1) l=jD 1 (jD i l):=by rw[Ly]
 have o:jD (j+1) m=jD 1 (jD j m):=by rw[Ly]
 rw[q,o,h]
structure CR(w0 iY w2 wr:G)(b bs bn:Nat)(SB:iN)(L:iN)(D:SD)(NB HB UB:iN):Prop where
 ps:PS w0 wr b bs bn D SB NB HB UB
 T:Fr T3 iY wr
 kb:Kb L w2 wr
 sub:∀z∈PL b bs bn SB NB HB UB,z∈L
 sz:U (Q w2)<=U (Q wr)
theorem eO1{SB NB HB UB:iN}(h:O (PS w0 w b bs bn D SB NB HB UB))(hC:O (CI D.E D.N))(sU:O ((D.N.map λnd=>kK nd.A).Pairwise (·<·)))(hk:O (D.E[k]?=s))(em:Le D.N m)(hm:Mg m):dQ dG 339 #[jP #[.U s.1],Pz b] w λr w'=>∃Qi Qm zt Qf,tg w0 w b bs bn (yh D s.1) Qi Qm zt Qf iS r w':=by
 let⟨X,iY,hX,hY,bY,zX,zY,BX,RY⟩:=MW w #[.U s.1] 300;have hid:=hC.so.rg s (bq (ae hk));have gO:=keyOf_int_mk underlying27 (FR hid);have PY:=h.H bY;obtain⟨-,-,-,-,-,h5,-⟩:=PY.oU;let⟨M,n,oN,hn,mN,zN⟩:=PY.sP;have DZ:=h.be.size;have Te:O (∀nd∈D.N,Maps.has M (ft nd.A)):=λnd aI=>by let⟨i,hi⟩:=lh.1 aI;let⟨gz,_,_,SP,_,_⟩:=PY.nat hi;exact(mN.hs _).2 ⟨(ft nd.A,gz),by rw[lh];exact⟨i,by rw[tA,hi,SP]⟩,rfl⟩
 have HY:=eG PY BX RY;let⟨HBY,HZY,MN⟩:=gC bY zY mN;have fA1:U (Q w0)<=U (Q iY):=af;rw[hY,hX]at h5 oN;clear PY BX RY bY zX zY mN zN;go_in;go_wp2_with(first
  |(at_range;refine wpList_range_own _ rfl _ 186 rfl 9 _ uM underlying186 _ bn n _ rfl oN ?_;intro w1 Ap sZ Cb)
  |go_in)
 go_frame
 rw[<-hX,<-hY]at Ap sZ⊢;let⟨r1,Ff⟩:=aF (U (Q iY));rw[<-Ff]at Ap⊢;have b1:Bw iY w1:=(bD (U (Q iY)) iY).grown sZ aU (λj hj=>by cases hj);let⟨P1,F1⟩:=aQ (HY.1.H b1) (Fr.H (T:=T3) b1);have dY9:U (Q w0)<=r1:=af;clear Ff hX hY h5 oN sZ Cb b1
 go_loopw[6](λ_ wr=>∃(left:Lit->Bool)(gy:Nat),wr.ranges dG 9 kc bn r1 n M left gy/\O (PS w0 wr b bs bn {D with N:=D6 (tT s.1) left D.N} SB NB HB UB)/\O (Fr T3 iY wr)) (λ_ wr=>wr.rangeLeft bn r1)
 exact⟨_,_,Ap,by rw[bQ9 (ae Te)];exact P1,F1⟩;{
 obtain⟨left,gy,kq,Au,mT⟩:=hrel;go_wp2_with(first
  |(at_next;refine U3 _ rfl _ rfl 9 uM (λs:ByteArray=>.string s) aw7 bn r1 n _ _ MN _ _ rfl kq ?_ ?_)
  |go_in)
 {
 intro _ sX;have uT:=ae Au;rw[bR0 sX]at uT;obtain⟨N,PT⟩:∃N:SD,N={D with N:=D.N.map (tT s.1)}:=⟨_,rfl⟩;have Ar:J N.N=m:=by rw[PT,iC];exact ae em
 have hPP:N.N.map (·.A)=D.N.map (·.A):=by rw[PT,uI];rfl
 rw[<-PT]at uT;obtain⟨-,-,-,-,-,h5,-⟩:=uT.oU;let⟨M2,nn,oM,hnn,mM,zM⟩:=uT.sP;have WE:=uT.Ys.kM;have E1:=ai PT;let⟨Y2,TK⟩:=aF wr;subst TK;let⟨P2,HL1⟩:=aQ uT Ar;have fO:N.E=D.E:=by rw[PT]
 have pX:=ai fO;have dZ0:O ((N.N.map λnd=>kK nd.A).Pairwise (·<·)):=by show List.Pairwise _ _;rw[PT,uI];exact sU
 have mU:O (CI N.E N.N):=by rw[PT];exact hC.cw s.1
 clear sX Au kq uT Ar hPP PT fO
 go_wp21
 refine(T.Yv bn nn M2 Y2 oM (by rw[zM,ae HL1];exact hm)).h ?_;rintro r w2⟨kv,ks,rfl,AI,xF,aA⟩;cases aX2 WE dZ0 mM AI;obtain⟨p,c,rfl,SE⟩:=aU9 xF;rw[ae HL1];have HK:=ai SE;let⟨DF,eDF⟩:=cg (ng s.1 m 0 N);let⟨HZK,CR2⟩:=aQ P2.blt (show CR w0 iY w2 w2 b bs bn SB (PL b bs bn SB NB HB UB) N NB HB UB from⟨P2.H aA,mT.Z (Fr.H aA),λz _ _=>rfl,λz hz=>hz,fS _⟩);clear SE xF AI oM mM WE zM aA h5;go_wp2
 go_loopw[31](λiv wr=>∃(j i:Nat)(Dk:SD)(XA XL Xr:iN),j<=m/\iv=.I j/\O (ng s.1 (m-j) i Dk=DF)/\O ((Dk.N.map (·.A)).drop i=(N.N.map (·.A)).drop j)/\O (CI Dk.E Dk.N)/\O (Dk.E.map (·.1)=N.E.map (·.1))/\O (CR w0 iY w2 wr b bs bn SB (PL b bs bn SB NB HB UB) Dk XA XL Xr)) (λiv _=>m-(jN (intOf iv)))
 exact⟨0,0,N,NB,HB,UB,de _,rfl,eDF,di,mU,di,CR2⟩;{
 obtain⟨j,i,Dk,XA,XL,Xr,hj,rfl,hDF,cz0,td,cA4,E⟩:=hrel;obtain⟨-,-,-,-,h4,h5,-⟩:=E.ps.oU;have cB:I wr (Aw w 0)=dU s.1:=cI (E.T.2 _ _ _ _ bf HY.2.1) 0;by_cases aH:j<m;{
 have dm:=cM j m;obtain⟨x,hx⟩:∃x,N.N[j]?=Y x:=⟨_,bN (by rw[ae HL1];exact aH)⟩;obtain⟨gk,rfl,Is⟩:∃gk,p=(Ad gk 0)/\I wr (Ad gk j)=Y (jJ (bg x.A)):=by obtain h0|⟨gk,rfl,h1,h2,h3⟩:=ae HK;{rw[h0]at hx;simp at hx};{refine⟨gk,rfl,?_⟩;have h4:=h3 j x hx;rw[nY]at h4;exact(gG (E.kb gk h2 (λhm=>aM (ae HZK gk hm))) j).Z h4}
 let⟨nd,hi,hpe⟩:=dC9 cz0 (P:=x.A) (by rw[qU,hx];rfl);rw[<-hpe]at Is;let⟨hT,OJ,SL⟩:=td.nt nd (bq hi);let⟨g,hh,uu,hg,jq,jv,hN,hlk⟩:=E.ps.Zu hi hT.pl;let⟨B,eB⟩:=cg (nd.y.contains s.1);have R:=gJ hi hg jq jv;have HT:=eG hT OJ SL;let⟨HN,HCB⟩:=aQ hN (λ(v:G)(hv:Fr T3 wr v)=>cI (hv.2 _ _ _ _ bf (E.T.2 _ _ _ _ bf HY.2.1)) 0);clear hx hpe hi hT OJ SL hg jq jv hN
 go_wp21
 clear Is hlk h5;refine cL (J7 HN hid eB) λw5 eh=>?_;have B5:=ai eh;have cB5:=ae HCB w5 (Fr.H eh);let⟨D2,W8⟩:=cg (kV Dk i s.1);clear eh cB
 go_upto_if 44 with fail
 go_cut[](λwd=>O (PS w0 wd b bs bn D2 SB XA XL Xr)/\O (Fr T3 wr wd)/\O (Kb (PL b bs bn SB XA XL Xr) wr wd))
 case first=>(
 cases B;{
 go_wp21
 go_meet;have e2:D2=Dk:=by have:=bz8 R.1 eB;exact W8.C.Z this
 rw[e2];exact⟨ai (E.ps.H B5),ai (Fr.H B5),ai (Kb.H B5)⟩};{
 go_wp21
 refine(ca1 (E.ps.H B5) R.1 td.so HT.1 hid HT.2.1 HT.2.2 eB).h ?_;rintro r w6⟨P6,⟨F6,K6⟩,v6,rfl⟩;rw[ae W8]at P6;let⟨HP6,HF6,HK6⟩:=gC P6 ((Fr.H B5).Z F6) ((Kb.H B5).Z K6 B5.size);clear P6 F6 K6
 go_wp21
 go_meet;exact⟨HP6,HF6,HK6⟩})
 case rest=>(
 obtain⟨P6,F6,K6⟩:=hcut;let⟨q1,q2,q3,jh,q4,q5,q6⟩:=CI.drop td R.1 s.1;rw[ae W8]at q1 q2 q3 q4;obtain⟨V6,-,-,-,n1,-⟩:=(P6.rV i jh g hh uu q4 R.2.1 R.2.2.1 R.2.2.2).cells;have cK:=cL8 (m:=m-j+i) (k:=i) af W8 q4;have bs4:=ae hDF;rw[show m-j+i-i=m-j by omega]at cK;rw[cK]at bs4;have cr6:(D2.N.map (·.A)).drop i=(N.N.map (·.A)).drop j:=by rw[q2];exact ae cz0
 have S:=nK q1 (q3.Z cA4) q4 cr6 bs4;have Nh:=eG (gq E.sz F6.1) (E.kb.Z (K6.h E.sub) E.sz) (E.T.Z F6);have HQ6:=ai q6;clear q1 q2 q3 q4 q6 cK bs4 cr6
 go_wp21
 refine Ga aS (λW eW=>?_);have bW:=kH eW;have n1':=aq n1 bW;have cB7:=aq (ae HCB wc F6) bW;have BW:=ai bW;clear eW n1 bW cB5 h4
 repeat still_step
 refine qV ?_;by_cases ho:jh.D=s.1;{
 have xS:(jh.D==s.1):=by simp[ho]
 have e7:=S.2.2.2.2;rw[aK ho,show m-j+i-1-i=m-(j+1) by omega]at e7;have E7:=ai e7;have T7:=CI.tell S.1 S.2.2.1 2;have HRM:=bZ9 (P6.H BW) S.2.2.1 S.1.so (ai (S.1.nt jh (bq S.2.2.1)).1) S.1.kd;rw[ae HQ6]at HRM;have fc9:=ai HRM;have hp7:O (((xD (ly D2 i 2) i).N.map (·.A)).drop i=(N.N.map (·.A)).drop (j+1)):=by show List.drop i (List.map _ (List.eraseIdx _ _))=_;rw[ch3,T7.2.1,cJ7 (by rw[iC];exact(bH.1 S.2.2.1).1)];exact cd0 S.2.2.2.1
 have C7:=ai (CI.rm T7.1 i);have I7:O ((xD (ly D2 i 2) i).E.map (·.1)=N.E.map (·.1)):=T7.2.2.1.Z S.2.1;clear ho e7 T7 HRM
 go_wp21
 refine fc9.h ?_;rintro r w7⟨P7,⟨F7,K7⟩,v7,rfl⟩;have R7:=ai (show CR w0 iY w2 w7 b bs bn SB (PL b bs bn SB NB HB UB) (xD (ly D2 i 2) i) (XA.eraseIdx i) (XL.eraseIdx i) (Xr.eraseIdx i)from⟨P7,(Nh.2.2.Z (Fr.H BW)).Z F7,(Nh.2.1.Z (Kb.H BW) Nh.1).Z (K7.h E.sub) (by have:=BW.size;have:=Nh.1;omega),ez5 E.sub,by have:=BW.size;have:=Nh.1;have:=F7.1;omega⟩);clear P7 F7 K7 n1' cB7;go_wp2;go_roundw;exact⟨j+1,i,_,_,_,_,af,by go_num,E7,hp7,C7,I7,R7⟩;exact dy};{
 have xS:(jh.D==s.1)=dF:=by simp[ho]
 have e7:=S.2.2.2.2;rw[aJ ho,show m-j+i-(i+1)=m-(j+1) by omega]at e7;have E7:=ai e7;clear ho e7;go_wp2;go_roundw;exact⟨j+1,i+1,_,_,_,_,af,by go_num,E7,cd0 S.2.2.2.1,S.1,S.2.1,(show CR w0 iY w2 W b bs bn SB (PL b bs bn SB NB HB UB) D2 XA XL Xr from⟨P6.H BW,Nh.2.2.Z (Fr.H BW),Nh.2.1.Z (Kb.H BW) Nh.1,E.sub,by have:=BW.size;have:=Nh.1;omega⟩)⟩
 case measure=>simp[intOf];omega})}
 {
 have dm:=ga j m;have e7:=ae hDF;rw[show m-j=0 by omega,ng]at e7;subst e7;have Wt:(Dk.E.map (·.1))[k]?=s.1:=by rw[ae cA4,ae pX,qU,ae hk];rfl
 obtain⟨s2,oR,es2⟩:∃s2,Dk.E[k]?=Y s2/\s2.1=s.1:=by
  rw[qU]at Wt;cases hq:Dk.E[k]? with
  |none=>rw[hq]at Wt;cases Wt
  |some s2=>rw[hq]at Wt;exact⟨s2,rfl,by simpa using Wt⟩
 have Hc:=bG oR es2;clear Wt oR es2
 go_wp21
 refine Bj 6 aS (λW eW=>?_);have bW:=kH eW;have PW:=E.ps.H bW;have FW:=E.T.Z (Fr.H (T:=T3) bW);have c0:I W (Aw w 0)=dU s.1:=cI (FW.2 _ _ _ _ bf HY.2.1) 0;obtain⟨-,-,-,-,k4,-⟩:=PW.oU;let⟨M4,n4,o4,hn4,s4,z4⟩:=PW.vY;let⟨Z,gx,ho,Md⟩:=o4.drop oO underlying185 gO 0;have OZ:=One.Hq PW.be Md.grown PW.lo.2.1 (ownsMap_at o4);have PZ:=PW.eJ6 Hc.1 OZ (λj' z' BS e'=>by
  have cr2:=H6.1 td.so.pw;let⟨l1,v1⟩:=bH.1 Hc.1;let⟨l2,v2⟩:=bH.1 BS;obtain hh|hh|hh:=Og k j';{have:=cr2 k j' l1 l2 hh;rw[v1,v2]at this;omega};{exact hh.C};{have:=cr2 j' k l2 l1 hh;rw[v1,v2]at this;omega}) (λM' n' o'=>by
  rw[Hc.2];obtain⟨w2',ZR,kU,-⟩:=o'.drop oO underlying185 gO 0;rw[gx]at ZR;cases ZR;exact kU)
 have eCl:yh D s.1={Dk with E:=Dk.E.eraseIdx k}:=by have e9:=ae eDF;rw[ae E1,<-ae em]at e9;unfold yh;rw[e9,<-dI9 td.so Hc.1,Hc.2]
 rw[<-eCl]at PZ;have FZ0:=FW.Z OZ.T;have FZ:=ai ((Fr.H (T:=T3) HBY).Z FZ0);have zl:=HY.2.2.T FZ0;have r0:=zl.cells
 change O _ at zl PZ
 clear eW OZ ho Md o4 s4 z4 PW FW FZ0 eCl h4 h5;simp only[Ej,wG,Df,yF]
 repeat still_step
 refine qV ?_;go_wp2;exact QS zl aS rfl rfl ⟨_,_,_,_,PS.rep PZ zl af _ _ _ _ _ _ _ _,FZ.low ((rT).h af),rfl⟩}}};{
 intro i0 pl g1 w4 DP ed3 hp OD Ao aH fo ay0 xU;let⟨j,z,WQ,hj,J1,ee⟩:=AY hp;simp only[lE]at ee;obtain⟨rfl,rfl⟩:=ee;have oQ:∀cur ty m,wr.heap[r1]?≠Y (dO cur ty m):=λcur ty m e=>by obtain⟨es,clock,since,seen,c0,-,-,-,-,hi,-⟩:=kq;rw[hi]at e;cases e
 have vK:∀es c,wr.heap[r1]?≠Y (.map es c):=λes c e=>by obtain⟨es,clock,since,seen,c0,-,-,-,-,hi,-⟩:=kq;rw[hi]at e;cases e
 have O4:=One.ofI Au.be fo dY9 oQ;have P4:=Au.iter O4 (λcs ty=>oQ cs ty _) vK;have fL:=bR1 (f:=tT s.1) hj OD;let⟨g9,hh,uu,z1,z2,z3,N4⟩:=P4.nat fL;rw[J1]at z1;cases z1;have cv3:(Instr.entry (Pz r1)).run dG w4=.ok (dT #[jJ i0,Pz g1]) w4:=xU;have Nj:=eG P4 (mT.Z O4.T) fL;have Uz:=bG Ao aH;have R:=gJ hj J1 z2 z3;clear oQ vK O4 P4 fL N4 Ao aH fo ay0 hp ed3 Au mT xU z2 z3 J1 hj
 go_wp21
 refine Bj 6 aS (λW eW=>?_);have bW:=kH eW;have PW:=Nj.1.H bW;have NW:=PW.rV j z g1 hh uu Nj.2.2 R.2.1 R.2.2.1 R.2.2.2;obtain⟨V,-,-,-,-,-,-,-,-,n6,-⟩:=NW.cells;have FW:=Nj.2.1.Z (Fr.H (T:=T3) bW);have c0:I W (Aw w 0)=dU s.1:=cI (FW.2 _ _ _ _ bf HY.2.1) 0;let⟨M4,n4,o4,hn4,s4,z4⟩:=NW.CG;let⟨Z,gx,ho,Md⟩:=o4.drop oO underlying166 gO 0;have OZ:=One.Hq PW.be Md.grown NW.lo.2.2 (ownsMap_at o4);have PZ':O (PS w0 Z b bs bn {D with N:=D6 (tT s.1) (λz'=>left z'&&!z'.sameKey (ft z.A)) D.N} SB NB HB UB):=by have:=PW.CG Nj.2.2 R.2.1 R.2.2.1 R.2.2.2 OZ (SM.del (w:=W) s4 (hC.nt z (bq R.1)).1.Nq hn4 ho);simp only at this;rw[<-(bQ8 (f:=tT s.1) (left:=left) hC.kd R.1)];exact this
 have FZ:=ai (FW.Z OZ.T);have An:Z.ranges dG 9 kc bn r1 n M (λz'=>left z'&&!z'.sameKey (ft z.A)) DP:=by
  refine cb7 Uz.1 ?_ ?_;{obtain⟨M9,n9,o9,-⟩:=PW.sP;refine(OZ.k bn o9.lt (λe=>(PW.hu.2.2.1 _ (bq R.2.2.2)).2 e.C)).Z ?_;rw[eW];rfl};{
 have hi9:∃o:Obj,W.heap[r1]?=o/\∀es c,o≠.map es c:=by obtain⟨es,clock,since,seen,c0,-,-,-,-,hi,-⟩:=Uz.1;exact⟨_,by rw[eW];exact hi,λes c e=>by cases e⟩
 obtain⟨o,ho9,aP⟩:=hi9;refine(OZ.k r1 (gQ ho9) (λe=>?_)).Z (by rw[eW];rfl);let⟨es,c,hm4⟩:=ownsMap_at o4;rw[e,hm4]at ho9;exact aP es c (CU ho9).C}
 clear eW NW OZ ho Md o4 s4 z4 PW FW;simp only[Ej,wG,Df,yF]
 repeat still_step
 refine qV ?_;go_wp2;go_roundw;exact⟨_,_,An,PZ',FZ⟩
 case measure=>rw[An.left_eq,kq.left_eq];exact Uz.2}}
theorem SM.nil{u:Nat}(o:jM w dG 27 (unitElem (H:=Unit)) u 0 (.map [])):SM w u []:=
 ⟨_,0,o,bf,(λk=>by simp[Maps.has]),rfl⟩
variable {k:TypeId}{P:Program}
theorem cb8{R:dV->Option (DataW Unit×List MemPlace)}{r:Nat}{D:DataW Unit}(h:w.ranges P k R b r n D left gy):(∀i ty m,w.heap[r]?≠Y (dO i ty m))/\∀es c,w.heap[r]?≠Y (.map es c):=by
 obtain⟨es,o,j,q,u,-,-,-,-,s,-⟩:=h;exact⟨λi ty m e=>(by rw[s]at e;cases e),λes c e=>(by rw[s]at e;cases e)⟩
theorem cD7{SB NB HB UB:iN}(h:O (PS w0 w b bs bn D SB NB HB UB))(hK:O (KD D.N))(qD:O (∀(i j:Nat)(s s':aB),D.E[i]?=Y s->D.E[j]?=s'->i<j->s.1≠s'.1)):dQ dG 127 #[Pz b] w λr w'=>PS w0 w' b bs bn ⟨D.e,D.g,D.x,0,D.E.map pZ,D.N.map qP⟩ SB NB HB UB/\Fr T3 w w'/\∃v,r=dR v:=by
 let⟨h0,h1,h2,h3,h4,h5,hf⟩:=h.oU;have DZ:=h.be.size;let⟨Z,hZ⟩:=aF (jS w (Ad b 3) (.I 0));have OZ:One w0 w Z b:=One.Hr h.be (by rw[hZ];exact db.setCell (p:=(Ad b 3)) aU _) h.hd h.lo.1 al (λy _ hy=>(λy hy=>by rw[hZ];exact gh _ _ _ _ hy) y hy);have PZ:=h.aO4 OZ D.e D.g D.x 0 (by rw[hZ];simp[World.setCell,Ac,h.hd]);let⟨M,n,oS,hn,mS,zS⟩:=PZ.vY;obtain⟨-,-,-,-,i4,-,-⟩:=PZ.oU;have Te:O (∀s∈D.E,Maps.has M (.U s.1)):=λs hs=>by let⟨i,hi⟩:=lh.1 hs;obtain⟨gz,SP,-⟩:=PZ.sat (i:=i) (s:=s) hi;exact(mS.hs _).2 ⟨(.U s.1,gz),by rw[lh];exact⟨i,by rw[tA,hi,SP]⟩,rfl⟩
 let⟨HP,HF,HZs,MS⟩:=zk PZ OZ.T OZ.b.size mS;clear PZ OZ mS zS h0 h1 h2 h5;go_in;subst hZ;go_wp2_with(first
  |(at_range;refine wpList_range_own _ rfl _ 185 rfl 27 _ oO underlying185 _ bs n _ rfl oS ?_;intro w1 Ap sZ Cb)
  |go_in)
 have eZ:U (Q (jS w (Ad b 3) (.I 0)))=U (Q w):=al;rw[eZ]at Ap HZs;let⟨Z,hZ⟩:=aF (jS w (Ad b 3) (.I 0));rw[<-hZ]at HP HF sZ eZ;have b1:Bw Z w1:=(bD _ Z).grown sZ aU (λj W=>by cases W);let⟨P1,F1⟩:=aQ (HP.H b1) (HF.Z (Fr.H (T:=T3) b1));let⟨r1,Ff⟩:=aF (U (Q w));rw[<-Ff]at Ap⊢;have nj:U (Q w0)<=r1:=af;clear Ff hZ eZ b1 sZ Cb oS i4 h3 h4 hf HP HF HZs
 go_loopw[3](λ_ wr=>∃(left:Lit->Bool)(gy:Nat),wr.ranges dG 27 kc bs r1 n M left gy/\O (PS w0 wr b bs bn ⟨D.e,D.g,D.x,0,zJ pZ left D.E,D.N⟩ SB NB HB UB)/\O (Fr T3 w wr)) (λ_ wr=>wr.rangeLeft bs r1)
 exact⟨_,_,Ap,by rw[dj3 (ae Te)];exact P1,F1⟩;{
 obtain⟨left,gy,kq,R,S⟩:=hrel;go_wp2_with(first
  |(at_next;refine U3 _ rfl _ rfl 27 oO (λi:Int=>.int jU i) cn7 bs r1 n _ _ MS _ _ rfl kq ?_ ?_)
  |go_in)
 {
 intro _ sX;have uT:=ae R;rw[dj4 sX]at uT;obtain⟨-,-,-,-,-,i5,-⟩:=uT.oU;let⟨M2,m,oN,hm,mN,zN⟩:=uT.sP;have el6:O (∀nd∈D.N,Maps.has M2 (ft nd.A)):=λnd aI=>by let⟨i,hi⟩:=lh.1 aI;let⟨gz,_,_,SP,_,_⟩:=uT.nat (i:=i) (nd:=nd) hi;exact(mN.hs _).2 ⟨(ft nd.A,gz),by rw[lh];exact⟨i,by rw[tA,hi,SP]⟩,rfl⟩
 let⟨iY,eY⟩:=aF wr;subst eY;have hYs:=S.1;have P2:=ai uT;go_wp2_with(first
  |(at_range;refine wpList_range_own _ rfl _ 186 rfl 9 _ uM underlying186 _ bn m _ rfl oN ?_;intro w3 Ox sY hs3)
  |go_in)
 have b3:Bw iY w3:=(bD _ iY).grown sY aU (λj W=>by cases W);let⟨P3,F3⟩:=aQ (P2.H b3) (S.Z (Fr.H (T:=T3) b3));let⟨r2,xq⟩:=aF (U (Q iY));rw[<-xq]at Ox⊢;have iK:U (Q w0)<=r2:=af;clear xq b3 sY hs3 oN i5 P2 S
 go_loopw[5](λ_ wr=>∃(left:Lit->Bool)(gy:Nat),wr.ranges dG 9 kc bn r2 m M2 left gy/\O (PS w0 wr b bs bn ⟨D.e,D.g,D.x,0,D.E.map pZ,D6 qP left D.N⟩ SB NB HB UB)/\O (Fr T3 w wr)) (λ_ wr=>wr.rangeLeft bn r2)
 exact⟨_,_,Ox,by rw[bQ9 (ae el6)];exact P3,F3⟩;{
 clear Ox P3 F3;obtain⟨left,gy,kq,R,S⟩:=hrel;go_wp2_with(first
  |(at_next;refine U3 _ rfl _ rfl 9 uM (λs:ByteArray=>.string s) aw7 bn r2 m _ _ mN _ _ rfl kq ?_ ?_)
  |go_in)
 {intro _ sX;have hP4:=ae R;rw[bR0 sX]at hP4;have P4:=ai hP4;clear hP4 R;go_wp2;go_end0;exact⟨P4,S,_,rfl⟩};{
 intro i0 pl g1 w4 DP gO hp OD Ao aH fo ay0 xU;let⟨j,z,WQ,W,J1,ee⟩:=AY hp;simp only[lE]at ee;obtain⟨rfl,rfl⟩:=ee;let⟨oQ,vK⟩:=cb8 kq;have O4:=One.ofI R.be fo iK oQ;have P4:=R.iter O4 (λcs ty=>oQ cs ty _) vK;have fL:=bR1 (f:=qP) W OD;let⟨g9,hh,uu,z1,z2,z3,N4⟩:=P4.nat fL;rw[J1]at z1;cases z1;obtain⟨V,-,-,-,-,-,-,-,-,n6,-⟩:=N4.cells;let⟨M4,n4,o4,hn4,s4,z4⟩:=N4.CG;let⟨v,w5,gx,vo,mY,hs5⟩:=bY6 underlying166 o4 0;have X:=One.Hq P4.be mY N4.lo.2.2 (ownsMap_at o4);have P6:O (PS w0 w5 b bs bn ⟨D.e,D.g,D.x,0,D.E.map pZ,D6 qP (λE=>left E&&!E.sameKey (ft z.A)) D.N⟩ SB NB HB UB):=by have:=P4.CG fL J1 z2 z3 X (SM.nil vo);simp only at this;rw[<-bQ8 (f:=qP) (ae hK) W];exact this
 have F5:=ai ((S.Z O4.T).Z X.T);have An:w5.ranges dG 9 kc bn r2 m M2 (λE=>left E&&!E.sameKey (ft z.A)) DP:=by refine cb7 Ao ?_ ?_;{obtain⟨M9,n9,o9,-⟩:=P4.sP;exact X.k bn o9.lt (λe=>(P4.hu.2.2.1 _ (bq z3)).2 e.C)};{obtain⟨es,clock,since,seen,c0,-,-,-,-,hi,-⟩:=Ao;refine X.k r2 (gQ hi) (λe=>?_);let⟨Mz,c',hm4⟩:=ownsMap_at o4;rw[<-e,hi]at hm4;cases hm4}
 clear fo hp gO R S O4 P4 N4 X vo mY hs5 oQ vK o4 s4 z4;go_wp2;go_roundw;exact⟨_,_,An,P6,F5⟩
 case measure=>rw[An.left_eq,kq.left_eq];exact aH}}}
 {
 intro i0 pl g1 w2 DP gO hp OD Ao aH fo ay0 xU;let⟨j,z,WQ,W,J1,ee⟩:=AY hp;simp only[lE]at ee;obtain⟨rfl,rfl⟩:=ee;let⟨oQ,vK⟩:=cb8 kq;have O2:=One.ofI R.be fo nj oQ;have P2:=R.iter O2 (λcs ty=>oQ cs ty _) vK;have fL:=dj5 (f:=pZ) W OD;let⟨a1,u,a2,a3⟩:=P2.vy j z g1 fL J1;have gm:I w2 (Ad g1 1)=dI z.2.1:=cI a2 1;have im:I w2 (Ad g1 2)=u:=cI a2 2;have hf:∀o,jF w2 (Ad g1 o)=dF:=λo=>by simp[World.frozen?,a2]
 let⟨ZZ,N⟩:=aF (jS (jS w2 (Ad g1 1) (.I 0)) (Ad g1 2) ay);have X:One w0 w2 ZZ g1:=One.Hr P2.be (by rw[N];exact(db.setCell (p:=(Ad g1 1)) aU _).setCell (p:=(Ad g1 2)) aU _) a2 a1 al (λy _ hy=>by rw[N,gh _ _ _ _ hy,gh _ _ _ _ hy]);have P6:O (PS w0 ZZ b bs bn ⟨D.e,D.g,D.x,0,zJ pZ (λE=>left E&&!E.sameKey (.U z.1)) D.E,D.N⟩ SB NB HB UB):=by have:=P2.zJ (s':=pZ z) fL J1 X rfl ⟨a1,ay,by rw[N];simp[World.setCell,Ac,a2,pZ],AQ.nil _ _⟩;simp only at this;rw[<-dj2 (f:=pZ) (ae qD) W];exact this
 have F5:=ai ((S.Z O2.T).Z X.T);have An:ZZ.ranges dG 27 kc bs r1 n M (λE=>left E&&!E.sameKey (.U z.1)) DP:=by rw[N];exact Ao.of_walks ((KeepsWalks.setCell _ _ _).Z (KeepsWalks.setCell _ _ _))
 clear fo hp gO R S O2 P2 X a1 a2 a3 oQ vK;go_wp2;rw[<-N];go_roundw;exact⟨_,_,An,P6,F5⟩
 case measure=>rw[An.left_eq,kq.left_eq];exact aH}}
structure fD where
 e:Int
 g:Int
 x:Int
 t:Int
 E:List aB
 N:List au
def uf:fD:=⟨0,0,0,0,[],[]⟩
def pW(B:Nat)(w:G)(p:OA)(n c:Nat)(q:OA)(m d:Nat)(ss:List aB)(ns:List au):Prop:=
 ∃j i,nM w (.S p n c) ss/\iw w (.S q m d) ns/\mF w (.S p n c) ss j/\nG w (.S q m d) ns i/\gp B w (j++i)
theorem pW.zero(B:Nat)(w:G):pW B w dN 0 0 dN 0 0 [] []:=
 ⟨[],[],⟨dN,0,rfl,.L rfl⟩,⟨dN,0,rfl,.L rfl⟩,⟨dN,0,[],rfl,rfl,rfl,.L rfl⟩,⟨dN,0,[],rfl,rfl,rfl,.L rfl⟩,gp.nil _ _⟩
theorem pW.W(h:pW B w p n c q m d ss ns)(D:∀b,B<=b->b<U (Q w)->w'.heap[b]?=w.heap[b]?):pW B w' p n c q m d ss ns:=by
 obtain⟨r,o,M,E,y,x,j⟩:=h;have k:∀a∈r++o,w'.heap[a.b]?=w.heap[a.b]?:=λa i=>D _ (j.lo a i) (j.ke.lt i);have u:∀a∈r,w'.heap[a.b]?=w.heap[a.b]?:=λa i=>k a (Of _ i);have s:∀a∈o,w'.heap[a.b]?=w.heap[a.b]?:=λa i=>k a (H7 _ i);exact⟨r,o,M.kR y u,E.kR x s,mF.W y u,nG.W x s,j.W k⟩
theorem pW.H(h:pW B w p n c q m d ss ns)(j:Bw w w'):pW B w' p n c q m d ss ns:=h.W λb _ i=>j.block b i
theorem pW.h(h:pW B w p n c q m d ss ns)(i:B'<=B):pW B' w p n c q m d ss ns:=by
 obtain⟨y,x,u,s,r,o,j⟩:=h;exact⟨y,x,u,s,r,o,j.h i⟩
def bD6(B:Nat)(r:Ending)(w:G)(D:fD)(code:Int):Prop:=∃p c q d,r=dR (dT #[cO D.e D.g D.x D.t (.S p (J D.E) c) (.S q (J D.N) d),.I code])/\pW B w p (J D.E) c q (J D.N) d D.E D.N
end Go.Proofs.YthlkmijffhhimaaGreatDoor
