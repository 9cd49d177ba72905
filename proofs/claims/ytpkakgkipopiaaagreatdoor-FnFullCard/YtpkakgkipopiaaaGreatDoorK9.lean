import Derived.Test.YtpkakgkipopiaaaGreatDoorK8
open Array renaming size->U
open Bool renaming false->dF,true->dY
open Decidable renaming decide->dD
open Go renaming Calls->dQ,Value->dV,World->G
open Go.Ending renaming returned->dR
open Go.IntKind renaming u64->jU,i64->jV,wrap->jY
open Go.Obj renaming cells->dO
open Go.Proofs.Tryz renaming prog->dG
open Go.Region renaming wanted->jW
open Go.RowKit renaming Hid->O
open Go.Value renaming ownBlock->jB,string->jJ,int->jK,bool->jO,agg->jP,I->dI,pointer->dP,S->dS,tuple->dT,U->dU
open Go.World renaming alloc->jA,frozen?->jF,grownBy->jG,heap->Q,ownsMap->jM,setCell->jS,cell?->I
open Int renaming toNat->jN
open List renaming drop->jD,flatten->jL,range->jR,take->jT,eraseIdx->jX,zipWith->jZ,length->J
open Option renaming none->dN,some->Y
namespace Go.Proofs.YtpkakgkipopiaaaGreatDoor
set_option maxHeartbeats 12800000
set_option linter.all false
set_option maxRecDepth 100000
open Go.ChangeShapes Go.WideShapes Go.ChangeAt Go.RowKit Go.Maps Go.Proofs.Tryz
variable {l P VL V ids lm r:LI}{b bs bn i np nv cv j k cp nh z m n kK c sz M N x L' b2:Nat}{D:SD}{nd:au}{w0 iY u X:G}{B F:Bool}{pv pp pq p q p2:OA}{C s S E iG g e mo ep ge t y a' d:Int}{ops:iQ}{a:Act}{K:Act->G->Prop}{R:Ending->G->Prop}{f:FuncId}{x1 x2:Operand}{sX:Array TypeId}{v1 v2 v v0 v3 v4 v5 v6 v7:dV}{ss:List aC}{ns:List au}{L:iN}{PP ls xs:List LI}{left:Lit->Bool}{vs cs:List dV}{Ls:List (List Lf)}{ty t1 t2:TypeId}{lb:List Lf}{om o o' qG:Option LI}{rest:List Oper}{c2 c1:iA}
theorem ds5:J (im l)<=J l+1:=by
 unfold im;split;{simp};{rw[te];omega}
theorem ap2(hl:J P<=1048577):keyOf dG 9 (jJ (bf P))=(dr P):=by
 rw[WideMaps.keyOf_string_mk underlying9 (by rw[DM];unfold maxLen;omega),VH]
theorem PS.bf5{w0 w:G}{SB NB HB UB:iN}(h:PS w0 w b bs bn D SB NB HB UB){g:Nat}(s:D.N[i]?=nd)(x:NB[i]?=Y g)(hl:J nd.A<=1048577):(Instr.lookup 133 (.map bn) (jJ (bf nd.A)) dY).run dG w=.ok (dT #[Pz g,jO dY]) w:=by
 obtain⟨M,n,o,-,m,-⟩:=h.qH;let⟨v,y,r,j⟩:=o.look_ok sG underlying133 (Tn w) (zd:=.nil) (zp:=[]) rfl (ap2 hl);have q:(dr nd.A,g)∈jZ (λ(nd:au)g=>(dr nd.A,g)) D.N NB:=bq (i:=i) (by rw[qV,s,x]);rw[m.at' _ q]at j;obtain rfl:=Uc j;rw[r,(m.hs _).2 ⟨_,q,rfl⟩]
theorem PS.aR3{w0 w:G}{SB NB HB UB:iN}(h:PS w0 w b bs bn D SB NB HB UB)(x:kU D.N P=dN)(N:aA P)(s:∀nd∈D.N,aA nd.A)(hl:J P<=1048577):(Instr.lookup 133 (.map bn) (jJ (bf P)) dY).run dG w=.ok (dT #[dP dN,jO dF]) w:=by
 obtain⟨M,n,o,-,m,-⟩:=h.qH;let⟨v,S,B,q⟩:=o.look_ok sG underlying133 (Tn w) (zd:=.nil) (zp:=[]) rfl (ap2 hl);have r:Maps.has M (dr P)=dF:=by rw[Eh];intro e;let⟨p,E,R⟩:=(m.hs _).1 e;obtain⟨i,nd,y,j,V,rfl⟩:=yv E;exact bY5 x nd (bq j) (MC (s nd (bq j)) N R)
 rw[Maps.atKey_of_not_has r]at q;obtain rfl:=aP3 q;rw[B,r]
theorem ez2{w:G}{SB NB HB UB:iN}(h:O (PS w0 w b bs bn D SB NB HB UB))(N:O (aA l))(Z:O (∀nd∈D.N,aA nd.A))(hl:J l<=1048577)(R:O (pI D.N l=B)):dQ dG 153 #[Pz b,jJ (bf l)] w (Rb (jO B) w):=by
 obtain⟨-,-,-,-,-,xv,-⟩:=h.nM;have o:((bf l).toList==(bf [47]).toList)=dD (l=[47]):=NU N (by intro y hy;simp at hy;omega);rw[show(bf [47]).toList=[47]from Cv [47]]at o;by_cases m:l=[47];{
 obtain rfl:B:=by rw[<-aa R,pI,aK m]
 have q:((bf l).toList==[47]):=by rw[o];simp[m]
 let⟨s,es⟩:=aF (bf l);rw[<-es]at q⊢;clear o m es;go_in;go_wp2;go_ret;exact⟨rfl,aR _ _⟩};{
 have q:((bf l).toList==[47])=dF:=by rw[o];simp[m]
 have j:(match kU D.N l with|some nd=>nd.D==0|none=>dF)=B:=by rw[<-aa R,pI,aJ m];rfl
 cases hF:kU D.N l with
 |none=>
  rw[hF]at j;obtain rfl:B=dF:=j.C;have x:=h.aR3 hF N Z hl;let⟨s,es⟩:=aF (bf l);rw[<-es]at q x⊢;clear hF j es;go_in;go_wp2;go_ret;exact⟨rfl,aR _ _⟩
 |some nd=>
  rw[hF]at j;replace j:(nd.D==0)=B:=j;obtain⟨rfl,i,r⟩:=al7 hF;let⟨g1,h1,u1,E,X,W,M⟩:=h.nat r;have x:=h.bf5 r E hl;obtain⟨V,-,-,-,u,-⟩:=M.cells;let⟨ow,S⟩:=aZ nd.D;rw[S]at u j;let⟨s,es⟩:=aF (bf nd.A);rw[<-es]at q x⊢;clear hF r E X W M S es;go_in;go_wp2;go_ret;exact⟨by rw[<-j];rfl,aR _ _⟩}
def Ly(D:SD)(P:LI):Int:=if(kU D.N P).isSome then 6 else if pI D.N (im P)=dF then 7 else if 200<=J D.N then 11 else 0
theorem et9{w:G}{SB NB HB UB:iN}(h:O (PS w0 w b bs bn D SB NB HB UB))(N:O (aA P))(u:Le P np)(kx:np<=2^20)(nO:O (∀nd∈D.N,aA nd.A)){id:Int}(eC:O (Ly D P=C)):dQ dG 307 #[jP #[.U id,jJ (bf P),jO F,.S pv nv cv],Pz b] w (Rb (rZ C) w):=by
 obtain⟨X,hX,bX,zX,CX,-⟩:=bM w #[.U id,jJ (bf P),jO F,.S pv nv cv] 262;have e:=aa eC;unfold Ly at e;go_in
 go_wp21
 rw[<-hX];refine Md aU (λW s=>?_);have V:Bw w W:=s▸bX.drew;have q:=af (h.H V);obtain⟨-,-,-,-,-,k5,-⟩:=q.nM;have Z:=CX.eh (w':=W) (by rw[s];rfl);have c1:=Z.1 1 _ rfl;have zW:U (Q w)<U (Q W):=by rw[s];show _<U (Q X);omega
 have HCW:=af Z;clear hX s CX Z;cases hF:kU D.N P with
 |some nd=>
  rw[hF]at e;obtain⟨rfl,i,hi⟩:=al7 hF;obtain⟨g1,h1,u1,q1,-,-,hN⟩:=q.nat hi;have fW:=q.bf5 hi q1 (by rw[aa u];omega);obtain rfl:C=6:=by rw[<-e];rfl
  repeat still_step
  refine rJ ?_;go_wp2;go_ret;exact⟨rfl,V⟩
 | none=>
  rw[hF]at e;have fW:=q.aR3 hF N nO (by rw[aa u];omega);have E:=af e
  repeat still_step
  refine rJ ?_
  go_wp21
  refine(aP5 (l:=P) (n:=np) u N kx (w:=W)).h ?_;rintro r w2⟨rfl,rfl⟩;let⟨B,eB⟩:=bL (pI D.N (im P));have R:J (im P)<=1048577:=by have:=ds5 (l:=P);have:=aa u;omega
  go_wp21
  refine cK (ez2 (w:=w2) (b:=b) (bs:=bs) (bn:=bn) (D:=D) (SB:=SB) (NB:=NB) (HB:=HB) (UB:=UB) q (l:=im P) (Ud N) nO R (B:=B) eB) λw5 cR=>?_;have e:=aa E;rw[aa eB]at e;have y:=af (ah V cR);have P5:=af (q.H cR);cases B with
  |false=>
   obtain rfl:C=7:=by rw[<-e];simp
   go_wp2;go_ret;exact⟨rfl,y⟩
  |true=>
   obtain⟨-,-,-,-,-,k5,-⟩:=P5.nM;let⟨M,n,o,hn,m,hz⟩:=P5.qH;have j:=o.len underlying133 3;rw[hz]at j;let⟨x,gM⟩:=aZ (J D.N);rw[gM]at j e;by_cases h2:200<=x;{
 have Zx:=gr 200 x;obtain rfl:C=11:=by rw[<-e];simp[h2]
 go_wp2;go_ret;exact⟨rfl,y⟩};{
 have Zx:¬(200:Int)<=(x:Int):=ae;obtain rfl:C=0:=by rw[<-e];simp[h2]
 go_wp2;go_ret;exact⟨rfl,y⟩}
def qX{α:Type}(j:Nat)(a:α)(l:List α):List α:=jT j l++a::jD j l
theorem Qe{α:Type}{a:α}{l:List α}(i:j<=J l):J (qX j a l)=J l+1:=by
 unfold qX;simp;omega
theorem ap6{α:Type}(a:α){l:List α}:(qX j a l).Perm (a::l):=by
 unfold qX;refine aU0.Z ?_;rw[Mw]
theorem ap7{α:Type}{a:α}{l:List α}(q:j<=J l)(i:Nat):(qX j a l)[i]?=if i<j then l[i]? else if i=j then Y a else l[i-1]?:=by
 unfold qX;by_cases m:i<j;{rw[aK m,qw (by rw[te];omega),PR,aK m]};{rw[aJ m,rG (by rw[te];omega),te,aT6 q];by_cases o:i=j;{subst o;simp};{rw[aJ o];obtain⟨d,rfl⟩:∃d,i=j+d+1:=⟨i-j-1,ae⟩;rw[show j+d+1-j=d+1 by omega,vF,Kd];simp}}
theorem cf7(nd:au):∀l:List au,∃j,j<=J l/\qJ nd l=qX j nd l
 |[]=>⟨0,ai,by simp[qJ,qX]⟩
 |x::r=>by rw[qJ];split;{exact⟨0,ai,by simp[qX]⟩};{let⟨j,i,e⟩:=cf7 nd r;refine⟨j+1,cg,?_⟩;rw[e];simp[qX]}
theorem dI0{α β γ:Type}(f:α->β->γ){a:α}{c:β}{l:List α}{m:List β}(hl:J l=J m)(i:j<=J l):jZ f (qX j a l) (qX j c m)=qX j (f a c) (jZ f l m):=by
 unfold qX;rw[aU1 (by simp[hl]),cb1,List.take_zipWith,List.drop_zipWith]
theorem PS.cI3{w0 w w':G}{SB NB HB UB:iN}(h:PS w0 w b bs bn D SB NB HB UB){gN hN uN:Nat}(hj:j<=J D.N)(hPN:PN w0 w gN hN uN nd)(hg:gN∉NB)(AG:∀z∈bs::bn::(HB++UB),z≠hN/\z≠uN)(hNu:hN≠uN)(hid:∀nd'∈D.N,dr nd'.A≠dr nd.A)(iO:One w0 w w' bn)(hl:J D.N<2^20)(hM:∀M,jM w dG 9 iB bn (J D.N) M->jM w' dG 9 iB bn (J D.N+1) (M.put (dr nd.A) (.lit (.I gN)))):PS w0 w' b bs bn {D with N:=qX j nd D.N} SB (qX j gN NB) (qX j hN HB) (qX j uN UB):=by
 let⟨d0,d1,d2,d3,d4,d5⟩:=h.hu;let⟨M,n,o,hn,m,hz⟩:=h.qH;let⟨es0,c0,m0⟩:=ownsMap_at o;have nc:∀{y:Nat}{cs:iA}{ty:TypeId},w.heap[y]?=dO cs ty->y≠bn:=λ{y cs ty}hy e=>by rw[e,m0]at hy;cases hy
 have iT:∀p∈jZ (λ(nd:au)g=>(dr nd.A,g)) D.N NB,p.1≠dr nd.A:=λp hp e=>by obtain⟨i,s',y,h1,-,rfl⟩:=yv hp;exact hid s' (bq h1) e
 have o':=Il o;rw[hz]at o';refine⟨h.be.Z iO.b,iO.obj h.hd (nc h.hd),h.vw,?_,λi s1 g1 fh dw=>?_,h.snd,?_,?_,?_,⟨_,_,hM M o',ae,?_,?_⟩,λi gS gb h1 u1 fh dw qZ kW=>?_,?_,h.lo,?_⟩;{let⟨M,n,o,r⟩:=h.uy;exact⟨M,n,iO.map o d0,r⟩};{have q:=h.vx i s1 g1 fh dw;obtain⟨-,u,h1,-⟩:=id q;exact q.W iO (nc h1)};{rw[Qe (h.xi▸hj),Qe hj,h.xi]};{rw[Qe (h.hlen▸hj),Qe hj,h.hlen]};{rw[Qe (h.xE▸hj),Qe hj,h.xE]};{rw[dI0 _ h.xi.C hj];refine(m.put o.isMap (k:=dr nd.A) gQ iT gN).same λp=>?_;rw[(ap6 _).mem_iff];simp[or_comm]};{
 have hh:Maps.has M (dr nd.A)=dF:=by rw[Eh];intro e;let⟨p,hp,e2⟩:=(m.hs _).1 e;exact iT p hp e2
 rw[size_put (ak8 o sG),hh,Qe hj];simp[hz]};{
 simp only[ap7 hj]at fh;rw[ap7 (h.xi▸hj)]at dw;rw[ap7 (h.hlen▸hj)]at qZ;rw[ap7 (h.xE▸hj)]at kW;have kp:∀{i':Nat},D.N[i']?=Y gS->NB[i']?=Y gb->HB[i']?=Y h1->UB[i']?=Y u1->PN w0 w' gb h1 u1 gS:=λa1 a2 a3 a4=>by have q:=h.rE _ gS gb h1 u1 a1 a2 a3 a4;obtain⟨-,⟨V,q1,-⟩,p3,p4⟩:=id q;exact q.W iO (nc q1) (d1 _ (bq a3)).2 (d2 _ (bq a4)).2
 by_cases e1:i<j;{rw[aK e1]at fh dw qZ kW;exact kp fh dw qZ kW};{rw[aJ e1]at fh dw qZ kW;by_cases e2:i=j;{rw[aK e2]at fh dw qZ kW;cases fh;cases dw;cases qZ;cases kW;obtain⟨-,⟨V,q1,-⟩,p3,p4⟩:=id hPN;exact hPN.W iO (nc q1) (λe=>(AG bn ai).1 e.C) (λe=>(AG bn ai).2 e.C)};{rw[aJ e2]at fh dw qZ kW;exact kp fh dw qZ kW}}};{rw[(ap6 _).nodup_iff,BS];exact⟨hg,h.FM⟩};{
 have pm:(bs::bn::(qX j hN HB++qX j uN UB)).Perm (hN::uN::(bs::bn::(HB++UB))):=by
  have a1:(qX j hN HB++qX j uN UB).Perm (hN::uN::(HB++UB)):=
   ((ap6 (j:=j) hN (l:=HB)).append (ap6 (j:=j) uN (l:=UB))).Z ((aU0 (a:=uN) (l₁:=HB) (l₂:=UB)).cons hN)
  have a2:=(a1.cons bn).cons bs;have mv:∀(x y:Nat)(l:iN),(x::bs::bn::y::l).Perm (x::y::bs::bn::l):=λx y l=>(((List.Perm.swap y bn l).cons bs).Z (List.Perm.swap y bs (bn::l))).cons x;have a3:(bs::bn::hN::uN::(HB++UB)).Perm (hN::bs::bn::uN::(HB++UB)):=((List.Perm.swap hN bn (uN::(HB++UB))).cons bs).Z (List.Perm.swap hN bs _);exact(a2.Z a3).Z (mv hN uN _)
 rw[pm.nodup_iff,BS,BS];refine⟨λe=>?_,λe=>(AG uN e).2 rfl,h.wu⟩;obtain e|e:=gv.1 e;{exact hNu e};{exact(AG hN e).1 rfl}}
theorem bY3{s:Nat}(es:U (Q iY)=s)(v0 v1 v2 v4 v5:dV):∃V,V=jA ((iY.alloc (.map #[] 0)).alloc (.map #[] 0)) (dO #[v0,v1,v2,.map s,v4,v5,.map (Y (s+1))] 142)/\Bw iY V/\U (Q V)=s+3/\V.heap[s+2]?=dO #[v0,v1,v2,.map s,v4,v5,.map (Y (s+1))] 142/\SM V s []/\SM V (s+1) []:=by
 subst es;have m:U (Q (iY.alloc (.map #[] 0)))=U (Q iY)+1:=ai;have x:U (Q ((iY.alloc (.map #[] 0)).alloc (.map #[] 0)))=U (Q iY)+2:=ai;obtain⟨V,i,B,j,-,r⟩:=bM ((iY.alloc (.map #[] 0)).alloc (.map #[] 0)) #[v0,v1,v2,.map (U (Q iY)),v4,v5,.map (Y (U (Q iY)+1))] 142;rw[x]at r j;have y:=World.ownsMap_made (H:=Unit) iY dG 24 unitElem;have q:=World.ownsMap_made (H:=Unit) (iY.alloc (.map #[] 0)) dG 24 unitElem;rw[m]at q;refine⟨V,i,?_,j,r,?_,?_⟩;{exact ah ((aH.alloc az _).alloc (by rw[m];omega) _) B};{refine⟨.map [],0,?_,ae,kM.nil,rfl⟩;rw[i];exact(y.alloc _).alloc _};{refine⟨.map [],0,?_,ae,kM.nil,rfl⟩;rw[i];exact q.alloc _}
theorem eu0{w:G}{SB NB HB UB:iN}(h:O (PS w0 w b bs bn D SB NB HB UB)){id:Int}(hV:O (AB w0 w (.S pv nv cv) VL))(kx:O (Mg (J P)))(iT:O (∀nd'∈D.N,dr nd'.A≠dr P))(hl:O (J D.N<2^20))(hj:O (j<=J D.N)):dQ dG 306 #[jP #[.U id,jJ (bf P),jO F,.S pv nv cv],Pz b] w λr w'=>∃gN hN uN,vt w0 w b bs bn {D with N:=qX j (qU P VL (if F then id else 0)) D.N} SB (qX j gN NB) (qX j hN HB) (qX j uN UB) ka r w':=by
 let⟨X,iY,hX,hY,bY,zX,zY,BX,RY⟩:=ZW w #[.U id,jJ (bf P),jO F,.S pv nv cv] 262;have MP:=@an1 dG;have Oj:=af RY;have wW:=h.be.size;go_in;cases F;{
 let⟨V,eV,bV,zV,gV,s1,s2⟩:=bY3 zY (.S pv nv cv) (.U 0) (.I 0) (.U 0) (.U 0);have HV:=nF bV zV gV s1 s2;have Hz:=af BX
 go_wp21
 rw[<-hX,<-hY,<-eV];refine Aa 8 aU (λW eW=>?_);let⟨bV,zV,gV,s1,s2⟩:=aa HV;have Hd:=mW eW;have wC:Bw iY W:=ah bV Hd;have bW:Bw w W:=ah bY wC;have PW:=af (h.H bW);have c1:=cX ((wC.block (U (Q w)) ae).Z Hz) 1;obtain⟨-,-,-,-,-,k5,-⟩:=PW.nM;have fe:=ap2 (P:=P) (aM (aa kx));have gW:=(Hd.block (U (Q w)+1+1+2) ae).Z gV;have PNW:PN w0 W (U (Q w)+1+1+2) (U (Q w)+1+1) (U (Q w)+1+1+1) (qU P VL 0):=⟨⟨ae,ae,ae⟩,⟨_,gW,hV.T (bH bW) ai⟩,s1.kept (Hd.block _ ae),s2.kept (Hd.block _ ae)⟩;let⟨M,n,o,hn,m,hz⟩:=PW.qH;have o':=Il o;rw[hz]at o';let⟨iU,fW,ho,qN⟩:=o'.update sG underlying133 (by have:=aa hl;unfold maxLen;omega) fe (Ub (U (Q w)+1+1+1+1));have O2:=One.Ec PW.be qN PW.lo.2.2 (ownsMap_at o');have YG:U (Q w)+1+1+2∉NB:=λe=>by let⟨i,hi⟩:=ji.1 e;let⟨nd',aG⟩:=h.bX9 hi;let⟨g',hh',uu',a1,a2,a3,xX⟩:=h.nat aG;rw[hi]at a1;cases a1;obtain⟨V',aQ,-⟩:=xX.blk;have:=gD aQ;omega
 have hold:∀z∈bs::bn::(HB++UB),z<U (Q w):=λz hz=>by
  have nb:∀i nd',D.N[i]?=Y nd'->∃hh uu,HB[i]?=Y hh/\UB[i]?=Y uu/\hh<U (Q w)/\uu<U (Q w):=λi nd' aG=>by let⟨g',hh',uu',a1,a2,a3,xX⟩:=h.nat aG;let⟨es,c,m3⟩:=xX.Cg.at;let⟨Jj,c',m4⟩:=xX.zL.at;exact⟨_,_,a2,a3,gD m3,gD m4⟩
  simp only[gv,jg]at hz;obtain rfl|rfl|hz|hz:=hz;{obtain⟨M,n,o,-⟩:=h.uy;exact o.lt};{obtain⟨M,n,o,-⟩:=h.qH;exact o.lt};{let⟨i,hi⟩:=ji.1 hz;let⟨hh,uu,a1,a2,a3,a4⟩:=nb i _ (bN (h.hlen▸(bu.1 hi).1));rw[hi]at a1;cases a1;exact a3};{let⟨i,hi⟩:=ji.1 hz;let⟨hh,uu,a1,a2,a3,a4⟩:=nb i _ (bN (h.xE▸(bu.1 hi).1));rw[hi]at a2;cases a2;exact a4}
 have PU:=af (PW.cI3 (j:=j) hj PNW YG (λz hz=>aM (hold z hz)) ae iT O2 hl (λM' o1=>by obtain⟨U',MK,yL,-⟩:=o1.update sG underlying133 (by have:=aa hl;unfold maxLen;omega) fe (Ub (U (Q w)+1+1+1+1));rw[fW]at MK;cases MK;exact yL))
 have FY:=(Fr.H (T:=T3) wC).Z O2.T;have RU:=Oj.T FY;have r0:=RU.cells;have FU':=af ((Fr.H (T:=T3) bY).Z FY);have RU':=af RU;clear eW bV zV gV s1 s2 Hd wC gW PNW o o' m hz ho qN O2 YG hold FY RU HV;simp only[An,uD,yE,vG]
 repeat still_step
 refine rJ ?_;go_wp2;exact Xb RU' aU rfl rfl ⟨_,_,_,PS.rep PU RU' ae _ _ _ _ _ _ _ _,FU'.low ((uV).h ae),rfl⟩};{
 let⟨V,eV,bV,zV,gV,s1,s2⟩:=bY3 zY (.S pv nv cv) (.U id) (.I 0) (.U 0) (.U 0);have HV:=nF bV zV gV s1 s2;have Hz:=af BX
 go_wp21
 rw[<-hX,<-hY,<-eV];refine Aa 8 aU (λW eW=>?_);let⟨bV,zV,gV,s1,s2⟩:=aa HV;have Hd:=mW eW;have wC:Bw iY W:=ah bV Hd;have bW:Bw w W:=ah bY wC;have PW:=af (h.H bW);have c1:=cX ((wC.block (U (Q w)) ae).Z Hz) 1;obtain⟨-,-,-,-,-,k5,-⟩:=PW.nM;have fe:=ap2 (P:=P) (aM (aa kx));have gW:=(Hd.block (U (Q w)+1+1+2) ae).Z gV;have PNW:PN w0 W (U (Q w)+1+1+2) (U (Q w)+1+1) (U (Q w)+1+1+1) (qU P VL id):=⟨⟨ae,ae,ae⟩,⟨_,gW,hV.T (bH bW) ai⟩,s1.kept (Hd.block _ ae),s2.kept (Hd.block _ ae)⟩;let⟨M,n,o,hn,m,hz⟩:=PW.qH;have o':=Il o;rw[hz]at o';let⟨iU,fW,ho,qN⟩:=o'.update sG underlying133 (by have:=aa hl;unfold maxLen;omega) fe (Ub (U (Q w)+1+1+1+1));have O2:=One.Ec PW.be qN PW.lo.2.2 (ownsMap_at o');have YG:U (Q w)+1+1+2∉NB:=λe=>by let⟨i,hi⟩:=ji.1 e;let⟨nd',aG⟩:=h.bX9 hi;let⟨g',hh',uu',a1,a2,a3,xX⟩:=h.nat aG;rw[hi]at a1;cases a1;obtain⟨V',aQ,-⟩:=xX.blk;have:=gD aQ;omega
 have hold:∀z∈bs::bn::(HB++UB),z<U (Q w):=λz hz=>by
  have nb:∀i nd',D.N[i]?=Y nd'->∃hh uu,HB[i]?=Y hh/\UB[i]?=Y uu/\hh<U (Q w)/\uu<U (Q w):=λi nd' aG=>by let⟨g',hh',uu',a1,a2,a3,xX⟩:=h.nat aG;let⟨es,c,m3⟩:=xX.Cg.at;let⟨Jj,c',m4⟩:=xX.zL.at;exact⟨_,_,a2,a3,gD m3,gD m4⟩
  simp only[gv,jg]at hz;obtain rfl|rfl|hz|hz:=hz;{obtain⟨M,n,o,-⟩:=h.uy;exact o.lt};{obtain⟨M,n,o,-⟩:=h.qH;exact o.lt};{let⟨i,hi⟩:=ji.1 hz;let⟨hh,uu,a1,a2,a3,a4⟩:=nb i _ (bN (h.hlen▸(bu.1 hi).1));rw[hi]at a1;cases a1;exact a3};{let⟨i,hi⟩:=ji.1 hz;let⟨hh,uu,a1,a2,a3,a4⟩:=nb i _ (bN (h.xE▸(bu.1 hi).1));rw[hi]at a2;cases a2;exact a4}
 have PU:=af (PW.cI3 (j:=j) hj PNW YG (λz hz=>aM (hold z hz)) ae iT O2 hl (λM' o1=>by obtain⟨U',MK,yL,-⟩:=o1.update sG underlying133 (by have:=aa hl;unfold maxLen;omega) fe (Ub (U (Q w)+1+1+1+1));rw[fW]at MK;cases MK;exact yL))
 have FY:=(Fr.H (T:=T3) wC).Z O2.T;have RU:=Oj.T FY;have r0:=RU.cells;have FU':=af ((Fr.H (T:=T3) bY).Z FY);have RU':=af RU;clear eW bV zV gV s1 s2 Hd wC gW PNW o o' m hz ho qN O2 YG hold FY RU HV;simp only[An,uD,yE,vG]
 repeat still_step
 refine rJ ?_;go_wp2;exact Xb RU' aU rfl rfl ⟨_,_,_,PS.rep PU RU' ae _ _ _ _ _ _ _ _,FU'.low ((uV).h ae),rfl⟩}
theorem dc0{P:Program}{w:G}{o:Oper}{iZ:iE}{E:Prop}(hw:jW o (yielded ops a.tmps)) (ho:o.op=.call {callee:=.value (.func f),args:=#[x1,x2],argTypes:=sX})(h1:a.eval x1=v1)(h2:a.eval x2=v2)(kn:∀vs,(callFunc f vs).run P w=.ok (.enter f vs) w)(hc:dQ P f #[v1,v2] w R)(hR:∀e w',R e w'->∃v,e=dR v/\K (a.put o.dst v) w'):if jW o (yielded ops a.tmps)then Oper.wp P o a w K iZ else E:=by
 rw[aK hw];have fW:(execOp a.eval o).run P w=.ok (.enter f #[v1,v2]) w:=by subst h1 h2;unfold execOp;simp[go_sem,ho,resolve,invoke,kn]
 show o.upon P a K iZ _;rw[fW,Mo];refine hc.h ?_;intro e w' h;obtain⟨v,rfl,hk⟩:=hR e w' h;exact hk
theorem dS9(h:J l=1)(s:Int):l.headD 0=s↔l.contains s:=by
 match l,h with
 |[y],_=>
  simp;exact⟨λe=>e.C,λe=>e.C⟩
theorem dg5(h:nd.M=1->J nd.y=1):WV nd s=if nd.M=1/\nd.y.headD 0≠s then 9 else 0:=by
 unfold WV;by_cases hm:nd.M=1;{have:=dS9 (h hm) s;by_cases hc:nd.y.contains s=dY;{rw[aJ (by rw[hc];simp),aJ (λe=>e.2 (this.2 hc))]};{rw[aK ⟨hm,by simpa using hc⟩,aK ⟨hm,λe=>hc (this.1 e)⟩]}};{rw[aJ (λe=>hm e.1),aJ (λe=>hm e.1)]}
variable {F:Int}
theorem dA0(o:D.N[k]?=nd)(h:yG D nd s F≠0):yF D k s F=(D,kP (yG D nd s F)):=by
 unfold yG at h⊢;simp only[yF,o];generalize nd.y.contains s=B at h⊢;cases B;{by_cases j:F=2;{by_cases i:nd.M=1;{simp[j,i]};{simp[j,i]at h}};{by_cases i:nd.M=0;{by_cases m:4611686018427387904<=D.g;{simp[j,i,m]};{simp[j,i,m]at h}};{simp[j,i]}}};{simp}
theorem cc3(hk:D.N[k]?=nd)(h:yG D nd s 2=0):yF D k s 2=({D with N:=D.N.set k {nd with M:=2,y:=lY nd.y s}},ka):=by
 unfold yG at h;simp only[yF,hk];generalize nd.y.contains s=B at h⊢;cases B;{by_cases h3:nd.M=1;{simp[h3]at h};{simp[h3]}};{simp at h}
theorem cc4(hk:D.N[k]?=nd)(hh:nd.M=0->nd.y=[])(h:yG D nd s 1=0):yF D k s 1=({D with g:=D.g+1,N:=D.N.set k {nd with M:=1,y:=lY nd.y s,P:=D.e,F:=D.g+1}},{ka with e:=D.e,g:=D.g+1})/\D.g<2^62:=by
 unfold yG at h;simp only[yF,hk];generalize nd.y.contains s=B at h⊢;cases B;{by_cases h3:nd.M=0;{by_cases h4:4611686018427387904<=D.g;{simp[h3,h4]at h};{refine⟨?_,ae⟩;rw[hh h3];simp[h3,h4,lY]}};{simp[h3]at h}};{simp at h}
theorem et8(h:Ly D P≠0):DL D P V S F=(D,kP (Ly D P)):=by
 unfold Ly at h⊢;unfold DL;by_cases i:(kU D.N P).isSome=dY;{simp[i]};{by_cases j:pI D.N (im P)=dF;{simp[i,j]};{by_cases m:200<=J D.N;{simp[i,j,m]};{simp[i,j,m]at h}}}
theorem cD5(h:Ly D P=0):DL D P V S F=({D with N:=qJ (qU P V (if F=1 then S else 0)) D.N},ka)/\kU D.N P=dN/\J D.N<200:=by
 unfold Ly at h;unfold DL;by_cases h1:(kU D.N P).isSome=dY;{simp[h1]at h};{by_cases h2:pI D.N (im P)=dF;{simp[h1,h2]at h};{by_cases h3:200<=J D.N;{simp[h1,h2,h3]at h};{exact⟨by simp[h1,h2,h3],by simpa using h1,ae⟩}}}
theorem du5(h:JZ D≠0):xJ D=(D,kP (JZ D)):=by
 unfold JZ at h⊢;unfold xJ;by_cases i:50<=J D.E;{simp[i]};{by_cases j:4611686018427387904<=D.x;{simp[i,j]};{simp[i,j]at h}}
theorem bV5(h:JZ D=0):xJ D=({D with x:=D.x+1,E:=D.E++[(D.x+1,D.t+10,[])]},{ka with i:=D.x+1,n:=D.t+10})/\J D.E<50/\D.x<2^62:=by
 unfold JZ at h;unfold xJ;by_cases h1:50<=J D.E;{simp[h1]at h};{by_cases h2:4611686018427387904<=D.x;{simp[h1,h2]at h};{exact⟨by simp[h1,h2],ae,ae⟩}}
def Ml(K:Int):Bool:=(K==5||(K==6||(K==7||(K==8||(K==9||(K==11||K==13))))))
theorem bY4(m:1<=k)(j:k<=13){w:G}:dQ dG 225 #[.I (k:Int)] w λr i=>r=dR (jO (Ml k))/\i=w:=by
 have h:k=1\/k=2\/k=3\/k=4\/k=5\/k=6\/k=7\/k=8\/k=9\/k=10\/k=11\/k=12\/k=13:=ae;clear m j;obtain rfl|rfl|rfl|rfl|rfl|rfl|rfl|rfl|rfl|rfl|rfl|rfl|rfl:=h
 all_goals
  go_in;go_wp2;go_ret;exact⟨rfl,rfl⟩
def D9(D:SD)(K:Int)(P:LI):Int:=if Aj K P then 0 else if vp P=dF then 4 else if Ml K/\(kU D.N P).isNone then 5 else 0
theorem ex2{w:G}{SB NB HB UB:iN}(h:O (PS w0 w b bs bn D SB NB HB UB))(nO:O (∀nd∈D.N,aA nd.A))(h1:1<=k)(h2:k<=13)(u:Le P np)(s:O (Rd w (.S pp np cp) P))(Z:O (aA P))(hp:np<=2^20)(gL:np<=cp)(ju:O (cp<=maxLen))(hm:O (∃m,I w (Ad 2 0)=dI m))(eC:O (D9 D k P=C)):dQ dG 210 #[Pz b,rD k S (.S pp np cp) F (.S pq nv cv) E iG] w (Rb (rZ C) w):=by
 obtain⟨X,hX,bX,zX,CX,-⟩:=bM w #[.I (k:Int),.U S,.S pp np cp,.I F,.S pq nv cv,.U E,.U iG] 26;have hcv:=λ(ob:Obj)=>uS u (s.H ((aR (U (Q w)) w).alloc az ob));have q:((bf P).toList==(bf [47]).toList)=dD (P=[47]):=NU Z (by intro y hy;simp at hy;omega);rw[show(bf [47]).toList=[47]from Cv [47]]at q;have e:=aa eC;unfold D9 Aj at e;let⟨st,x⟩:=bL (bf P);rw[aa x]at q;simp only[aa x]at hcv;by_cases j:(k:Int)=13/\P=[47];{
 have e13:((k:Int)==13):=by simp[j.1]
 have hr:(st.toList==[47]):=by rw[q];simp[j.2]
 obtain rfl:C=0:=by rw[<-e];simp[j.1,j.2]
 go_in;go_wp2;go_ret;exact⟨rfl,aH.alloc az _⟩};{
 have e1:(if vp P=dF then 4 else if Ml k/\(kU D.N P).isNone then 5 else 0)=C:=by
  rw[<-e];have:(dD ((k:Int)=13)&&dD (P=[47]))=dF:=by simpa using j
  rw[this];simp
 have E1:=af e1;have dR0:∃t,O (((k:Int)==13)=t/\(t->(st.toList==[47])=dF)):=⟨_,af ⟨rfl,λV=>by rw[q];simp at V;simpa using λs=>j ⟨ae,s⟩⟩⟩
 obtain⟨t,V⟩:=dR0;let⟨B,eB⟩:=bL (vp P);clear e e1 j q;go_in;have STEP:True:=gQ;cases t
 all_goals
  let⟨e13,bD⟩:=aa V
  try have fh5:=bD rfl
  clear bD
  go_wp21
  rw[<-hX];refine cK (aZ7 u (s.H bX) Z hp gL ju (hm.imp λm hm=>aj hm bX) eB) λw2 ay=>?_;have M:=CX.eh (w':=w2) (ay.block _ ae);have B2:=af (ah bX ay);have e:=aa E1;rw[aa eB]at e;cases B;{
 obtain rfl:C=4:=by rw[<-e];rfl
 go_wp2;go_ret;exact⟨rfl,B2⟩};{
 have e2:(if Ml k/\(kU D.N P).isNone then 5 else 0)=C:=by simpa using e
 have E2:=af e2
 go_wp21
 refine Md aU (λW eW=>?_);have o:Bw w W:=eW▸B2.drew;have R:=af (h.H o);obtain⟨-,-,-,-,-,k5,-⟩:=R.nM;have CW:=M.eh (w':=W) (by rw[eW];rfl);have c0:=CW.1 0 _ rfl;have c2:=CW.1 2 _ rfl;have hcv:=uS u (s.H o);rw[aa x]at hcv;clear eW CW M;cases hF:kU D.N P with
 |none=>
  have fW:=R.aR3 hF Z nO (by rw[aa u];omega);rw[aa x]at fW;have e:=aa E2;rw[hF]at e;clear hF
  repeat still_step
  refine rJ ?_
  go_wp21
  refine(bY4 h1 h2).h ?_;rintro r w5⟨rfl,rfl⟩;let⟨T,N⟩:=aZ (Ml k);rw[N]at e⊢;clear N;cases T;{
 obtain rfl:C=0:=by rw[<-e];simp
 go_wp2;go_ret;exact⟨rfl,o⟩};{
 obtain rfl:C=5:=by rw[<-e];simp
 go_wp2;go_ret;exact⟨rfl,o⟩}
 |some nd=>
  obtain⟨rfl,i,hi⟩:=al7 hF;obtain⟨g1,GI,u1,q1,-,-,hN⟩:=R.nat hi;have fW:=R.bf5 hi q1 (by rw[aa u];omega);rw[aa x]at fW;have e:=aa E2;rw[hF]at e;obtain rfl:C=0:=by rw[<-e];simp
  repeat still_step
  refine rJ ?_
  go_wp21
  refine(bY4 h1 h2).h ?_;rintro r w5⟨rfl,rfl⟩;let⟨T,N⟩:=aZ (Ml k);rw[N];cases T;{go_wp2;go_ret;exact⟨rfl,o⟩};{go_wp2;go_ret;exact⟨rfl,o⟩}}}
theorem PS.okS{w0 w:G}{SB NB HB UB:iN}(h:PS w0 w b bs bn D SB NB HB UB)(hr:0<=S/\S<2^64):∃v,(Instr.lookup 132 (.map bs) (.U S) dY).run dG w=.ok (dT #[dP v,jO (dD (0<=mZ D.E S))]) w:=by
 obtain⟨M,n,o,-,m,-⟩:=h.uy;let⟨v,ps,j,r⟩:=o.look_ok mT underlying132 (bH3 (w:=w)) (zd:=.nil) (zp:=[]) rfl (key:=.U S) (keyOf_int_mk underlying24 (DZ hr));by_cases x:mZ D.E S<0;{
 have N:Maps.has M (.U S)=dF:=by
  rw[Eh];intro e;let⟨p,B,R⟩:=(m.hs _).1 e;obtain⟨i,s,y,V,hy,rfl⟩:=yv B;simp only[Mq,Iq]at R;unfold mZ at x;cases hf:D.E.findIdx? (λs=>s.1==S)with
  |some k=>rw[hf]at x;simp at x;omega
  |none=>
   have:=an5.1 hf s (bq V);simp[R]at this
 rw[Maps.atKey_of_not_has N]at r;obtain rfl:=aP3 r;refine⟨dN,?_⟩;rw[j,N,show dD (0<=mZ D.E S)=dF by simp;omega]};{
 let⟨k,s,q,E⟩:=dj4 x;obtain⟨g,W,-⟩:=h.sat E;have es:s.1=S:=by
  unfold mZ at q;cases hf:D.E.findIdx? (λs=>s.1==S)with
  |none=>rw[hf]at q;simp at q
  |some k'=>
   rw[hf]at q;simp at q;obtain⟨Z,X,-⟩:=Mu.1 hf;obtain rfl:k'=k:=ae;have:D.E[k']=s:=by rw[bN Z]at E;simpa using E
   rw[<-this];simpa using X
 subst es;have B:(Lit.U s.1,g)∈jZ (λ(s:aC)g=>(Lit.U s.1,g)) D.E SB:=bq (i:=k) (by rw[qV,E,W]);rw[m.at' _ B]at r;obtain rfl:=Uc r;refine⟨Y (Ad g 0),?_⟩;rw[j,(m.hs _).2 ⟨_,B,rfl⟩,show dD (0<=mZ D.E s.1)=dY by simp;omega]}
def Bk(D:SD)(i j B:Bool)(K S:Int)(P:LI):Int:=if B=dF then 2 else if i/\mZ D.E S<0 then 3 else if j then D9 D K P else 0
theorem ev7{w:G}{SB NB HB UB:iN}(h:O (PS w0 w b bs bn D SB NB HB UB))(nO:O (∀nd∈D.N,aA nd.A))(h1:1<=k)(h2:k<=13)(hS:0<=S/\S<2^64)(eP:Le P np)(hP:O (Rd w (.S pp np cp) P))(hB:O (aA P))(hp:np<=2^20)(gL:np<=cp)(ju:O (cp<=maxLen))(hm:O (∃m,I w (Ad 2 0)=dI m)){i o:Bool}{V Z vs:Int}{N jo:Bool}(hT:O (Jw w 0 (k*7) i o V Z vs N jo))(eB:O (Bf i o V Z vs N S F np nv E iG=B))(eC:O (Bk D i o B k S P=C)):dQ dG 181 #[Pz b,rD k S (.S pp np cp) F (.S pq nv cv) E iG] w (Rb (rZ C) w):=by
 obtain⟨X,hX,bX,zX,CX,-⟩:=bM w #[.I (k:Int),.U S,.S pp np cp,.I F,.S pq nv cv,.U E,.U iG] 26;have e:=aa eC;unfold Bk at e;have i3:(k:Int)<14:=ae;have i4:k<14:=ae;have i5:=gr 0 k;go_in
 go_wp21
 rw[<-hX];refine cK (aI0 h1 h2 (hT.H bX) eB) λw2 y=>?_;have s:=CX.eh (w':=w2) (y.block _ ae);have B2:=af (ah bX y);clear y hX CX;cases B;{
 obtain rfl:C=2:=by rw[<-e];rfl
 clear e;go_wp2;go_ret;exact⟨rfl,B2⟩};{
 have e2:(if i/\mZ D.E S<0 then 3 else if o then D9 D k P else 0)=C:=by simpa using e
 have E2:=af e2;clear e e2
 go_wp21
 refine Md aU (λW x=>?_);have j:Bw w W:=x▸B2.drew;have M:=af (h.H j);obtain⟨-,-,-,-,k4,-,-⟩:=M.nM;have CW:=s.eh (w':=W) (by rw[x];rfl);let⟨c0,c1,c2,c3,c4,c5,c6⟩:=Hg CW.1;obtain⟨t0,t1,-⟩:=hT.H j;let⟨v,fW⟩:=M.okS (S:=S) hS;obtain⟨T,eT⟩:∃T,O (dD (0<=mZ D.E S)=T):=⟨_,rfl⟩;rw[aa eT]at fW;have e:=aa E2;have r:(mZ D.E S<0)↔T=dF:=by rw[<-aa eT];simp
 simp only[r]at e;clear x CW s r
 repeat still_step
 refine rJ ?_;clear fW k4;by_cases u:i/\T=dF;{
 obtain⟨rfl,rfl⟩:=u;obtain rfl:C=3:=by rw[<-e];simp
 clear e;go_wp2;go_ret;exact⟨rfl,j⟩};{
 have q:(if o then D9 D k P else 0)=C:=by rw[aJ u]at e;exact e
 have E3:=af q;clear e q;have Av:(i=dF/\T=dF)\/(i=dF/\T)\/(i/\T):=by cases i<;>cases T<;>simp at u⊢
 clear u;obtain⟨rfl,rfl⟩|⟨rfl,rfl⟩|⟨rfl,rfl⟩:=Av
 all_goals
  cases o;{
 obtain rfl:C=0:=by have:=aa E3;rw[<-this];rfl
 go_wp2;go_ret;exact⟨rfl,j⟩};{
 have q:D9 D k P=C:=by have:=aa E3;rw[aK rfl]at this;exact this
 have E4:=af q;clear q
 go_wp21
 refine cK (ex2 M nO h1 h2 eP (hP.H j) hB hp gL ju (hm.imp λm hm=>aj hm j) E4) λw9 R=>?_;have B9:=af (ah j R);clear R;go_wp2;go_ret;exact⟨rfl,B9⟩}}}
def bS1(k:Nat)(S:Int)(st:ByteArray)(F:Int)(V:dV)(E iG:Int):dV:=match k with
 |1=>.iface 256 (jP #[])
 |2=>.iface 259 (jP #[jK jU S])
 |3=>.iface 260 (jP #[jK jU S])
 |4=>.iface 262 (jP #[jK jU S,jJ st,jO (F==1),V])
 |5=>.iface 264 (jP #[jK jU S,jJ st])
 |6=>.iface 266 (jP #[jJ st])
 |7=>.iface 268 (jP #[jK jU S,jJ st,V])
 |8=>.iface 270 (jP #[jK jU S,jJ st,jK jV F])
 |9=>.iface 271 (jP #[jK jU S,jJ st])
 |10=>.iface 273 (jP #[jK jU S,jJ st,jK jU E,jK jU iG])
 |11=>.iface 275 (jP #[jK jU S,jJ st])
 |12=>.iface 276 (jP #[jK jU S])
 |_=>.iface 277 (jP #[jJ st])
theorem dn2(u:1<=k)(s:k<=13)(o:Le P np){w:G}(m:O (Rd w (.S pp np cp) P)):dQ dG 182 #[rD k S (.S pp np cp) F (.S pq nv cv) E iG] w (Rb (bS1 k S (bf P) F (.S pq nv cv) E iG) w):=by
 have hcv:=λ(i r:Obj)=>uS o (m.H (((aR (U (Q w)) w).alloc az i).alloc ai r));have j:=λ(i:Obj)=>uS o (m.H ((aR (U (Q w)) w).alloc az i));let⟨st,q⟩:=aZ (bf P);simp only[q]at hcv j⊢;clear q;have h:k=1\/k=2\/k=3\/k=4\/k=5\/k=6\/k=7\/k=8\/k=9\/k=10\/k=11\/k=12\/k=13:=ae;clear u s;obtain rfl|rfl|rfl|rfl|rfl|rfl|rfl|rfl|rfl|rfl|rfl|rfl|rfl:=h
 all_goals
  go_in;go_wp2;go_ret;exact⟨rfl,((aR (U (Q w)) w).alloc az _).alloc ai _⟩
theorem KD.of(h:zI ss ns):KD ns:=λi j a c o hc e=>by
 have q:a.A=c.A:=MC (h.n2 a (bq o)).1 (h.n2 c (bq hc)).1 e;obtain m|m|m:=Mz i j;{exact absurd q (h.n3 i j a c o hc m)};{exact m};{exact absurd q.C (h.n3 j i c a hc o m)}
theorem al6(h:(jR (J ns)).all (vD e g ss ns))(j:ns[i]?=nd):qx e g nd.M (J nd.y) nd.P nd.F/\rK ss nd.y/\rK ss nd.X:=by
 have m:=(bu.1 j).1;have:=lW.1 h i (by simpa using m);unfold vD at this;rw[iR,j]at this;simp only[ta,gI]at this;exact⟨this.2.2.2.2.2.2,this.2.2.2.2.1,this.2.2.2.2.2.1⟩
theorem aq0(h:rK ss ids):∀x∈ids,∃s∈ss,s.1=x:=λx m=>by
 let⟨i,j⟩:=ji.1 m;have:=lW.1 h i (by simpa using(bu.1 j).1);unfold II live at this;rw[iR,j]at this;simp only[ta,gI,Ur]at this;let⟨s,o,e⟩:=this.1;exact⟨s,o,by simpa using e⟩
theorem ao7(h:qx e g mo nh ep ge)(hm:mo=1):nh=1:=by
 unfold qx at h;rw[aK hm]at h;simp at h;exact h.1
theorem aW2(h:qx e g mo nh ep ge)(hm:mo≠1):ep=0/\ge=0/\(mo=0->nh=0):=by
 unfold qx at h;rw[aJ hm]at h;simp only[gI,Ee]at h;refine⟨h.1,h.2.1,λi=>?_⟩;have:=h.2.2;rw[aK i]at this;simpa using this
theorem NT.of(hF:zI ss ns)(h:(jR (J ns)).all (vD e g ss ns))(j:ns[i]?=nd):NT ss nd:=by
 let⟨a,b,c,d,f,k,m⟩:=hF.n2 nd (bq j);exact⟨a,b,m,f,aq0 (al6 h j).2.2⟩
theorem PS.blt{w0 w:G}{SB NB HB UB:iN}(h:PS w0 w b bs bn D SB NB HB UB):∀z∈PL b bs bn SB NB HB UB,z<U (Q w):=λz j=>by
 simp only[PL,gv,jg]at j;have key:∀{l:iN}{i:Nat},J l=J D.N->l[i]?=Y z->∃nd,D.N[i]?=Y nd:=λB hi=>⟨_,bN (by rw[<-B];exact(bu.1 hi).1)⟩;obtain rfl|rfl|rfl|j|j|j|j:=j;{exact gD h.hd};{obtain⟨M,n,o,-⟩:=h.uy;exact o.lt};{obtain⟨M,n,o,-⟩:=h.qH;exact o.lt};{let⟨i,hi⟩:=ji.1 j;obtain⟨s,hs⟩:∃s,D.E[i]?=Y s:=⟨_,bN (by rw[<-h.vw];exact(bu.1 hi).1)⟩;obtain⟨-,u,hc,-⟩:=h.vx i s z hs hi;exact gD hc};{let⟨i,hi⟩:=ji.1 j;let⟨nd,q⟩:=key h.xi hi;let⟨g,hh,uu,y,x,r,m⟩:=h.nat q;rw[hi]at y;cases y;obtain⟨V,E,-⟩:=m.blk;exact gD E};{let⟨i,hi⟩:=ji.1 j;let⟨nd,q⟩:=key h.hlen hi;let⟨g,hh,uu,y,x,r,m⟩:=h.nat q;rw[hi]at x;cases x;let⟨es,c,hm⟩:=m.Cg.at;exact gD hm};{let⟨i,hi⟩:=ji.1 j;let⟨nd,q⟩:=key h.xE hi;let⟨g,hh,uu,y,x,r,m⟩:=h.nat q;rw[hi]at r;cases r;let⟨es,c,hm⟩:=m.zL.at;exact gD hm}
theorem One.ofI{w0 w w':G}(s:Bw w0 w)(j:jG w w' z)(o:U (Q w0)<=z)(r:∀i ty m,w.heap[z]?≠Y (dO i ty m)):One w0 w w' z:=
 ⟨(aR (U (Q w0)) w).grown j s.size (λb e=>by cases e;exact o),λy q u=>j.block y q (λe=>u (by cases e;rfl)),λi ty m hc=>absurd hc (r i ty m)⟩
theorem ei6{SB NB HB UB:iN}(h:∀z∈PL b bs bn SB NB HB UB,z∈L):∀z∈PL b bs bn SB (jX NB k) (jX HB k) (jX UB k),z∈L:=λz i=>h z (by
 simp only[PL,gv,jg]at i⊢;obtain h|h|h|h|h|h|h:=i;{exact .L h};{exact .R (.L h)};{exact .R (.R (.L h))};{exact .R (.R (.R (.L h)))};{exact .R (.R (.R (.R (.L (Ms h)))))};{exact .R (.R (.R (.R (.R (.L (Ms h))))))};{exact .R (.R (.R (.R (.R (.R (Ms h))))))})
theorem bZ6{α β:Type}(f:α->β):∀(l:List α)(k:Nat),(jX l k).map f=jX (l.map f) k
 |[],k=>ai
 |a::r,0=>ai
 |a::r,k+1=>by simp[bZ6 f r k]
theorem dr4(h:jD i (ns.map (·.A))=jD j PP)(o:PP[j]?=P):∃nd,ns[i]?=Y nd/\nd.A=P:=by
 have m:(jD j PP)[0]?=P:=by rw[Kd];simpa using o
 rw[<-h,Kd,Mt,qI]at m;cases hn:ns[i]? with
 |none=>rw[hn]at m;cases m
 |some nd=>rw[hn]at m;exact⟨nd,rfl,by simpa using m⟩
theorem bU8{α:Type}{l m:List α}(h:jD i l=jD j m):jD (i+1) l=jD (j+1) m:=by
 have q:jD (i+1) l=jD 1 (jD i l):=by rw[FQ]
 have o:jD (j+1) m=jD 1 (jD j m):=by rw[FQ]
 rw[q,o,h]
structure CR(w0 iY w2 wr:G)(b bs bn:Nat)(SB:iN)(L:iN)(D:SD)(NB HB UB:iN):Prop where
 ps:PS w0 wr b bs bn D SB NB HB UB
 T:Fr T3 iY wr
 kb:Kb L w2 wr
 sub:∀z∈PL b bs bn SB NB HB UB,z∈L
 sz:U (Q w2)<=U (Q wr)
theorem ew4{w:G}{SB NB HB UB:iN}(h:O (PS w0 w b bs bn D SB NB HB UB))(hC:O (CI D.E D.N))(tj:O ((D.N.map λnd=>jv nd.A).Pairwise (·<·))){s:aC}(hk:O (D.E[k]?=s))(em:Le D.N m)(hm:Mg m):dQ dG 298 #[jP #[.U s.1],Pz b] w λr w'=>∃Oh Ol yr Oc,vt w0 w b bs bn (xz D s.1) Oh Ol yr Oc ka r w':=by
 let⟨X,iY,hX,hY,bY,zX,zY,BX,RY⟩:=ZW w #[.U s.1] 260;have hid:=hC.so.rg s (bq (aa hk));have fe:=keyOf_int_mk underlying24 (DZ hid);have PY:=h.H bY;obtain⟨-,-,-,-,-,h5,-⟩:=PY.nM;let⟨M,n,oN,hn,mN,zN⟩:=PY.qH;have wW:=h.be.size;have KP:O (∀nd∈D.N,Maps.has M (dr nd.A)):=λnd aG=>by let⟨i,hi⟩:=ji.1 aG;let⟨gz,_,_,AI,_,_⟩:=PY.nat hi;exact(mN.hs _).2 ⟨(dr nd.A,gz),by rw[ji];exact⟨i,by rw[qV,hi,AI]⟩,rfl⟩
 have HY:=dy PY BX RY;have HBY:=af bY;have HZY:=af zY;have MN:=af mN;have fm3:U (Q w0)<=U (Q iY):=ae;rw[hY,hX]at h5 oN;clear PY BX RY bY zX zY mN zN;go_in;go_wp2_with(first
  |(at_range;refine wpList_range_own _ rfl _ 133 rfl 9 _ sG underlying133 _ bn n _ rfl oN ?_;intro w1 uF pY xR)
  |go_in)
 go_frame
 rw[<-hX,<-hY]at uF pY⊢;let⟨r1,ya⟩:=aF (U (Q iY));rw[<-ya]at uF⊢;have ER:=af ya;have b1:Bw iY w1:=(aR (U (Q iY)) iY).grown pY az (λj hj=>by cases hj);have P1:=af (HY.1.H b1);have F1:=af (Fr.H (T:=T3) b1);have dN1:U (Q w0)<=r1:=ae;clear ya hX hY h5 oN pY xR b1
 go_loopw[6](λ_ wr=>∃(left:Lit->Bool)(kK:Nat),wr.ranges dG 9 iB bn r1 n M left kK/\O (PS w0 wr b bs bn {D with N:=CF (sP s.1) left D.N} SB NB HB UB)/\O (Fr T3 iY wr)) (λ_ wr=>wr.rangeLeft bn r1)
 exact⟨_,_,uF,by rw[bK4 (aa KP)];exact P1,F1⟩;{
 obtain⟨left,kK,gU,uh,la⟩:=hrel;go_wp2_with(first
  |(at_next;refine OP _ rfl _ rfl 9 sG (λs:ByteArray=>.string s) ap5 bn r1 n _ _ MN _ _ rfl gU ?_ ?_)
  |go_in)
 {
 intro _ qL;have ui:=aa uh;rw[bK5 qL]at ui;have yj:=af (hC.cw s.1);obtain⟨N,ND⟩:∃N:SD,N={D with N:=D.N.map (sP s.1)}:=⟨_,rfl⟩;have yM:J N.N=m:=by rw[ND,iH];exact aa em
 have hPP:N.N.map (·.A)=D.N.map (·.A):=by rw[ND,sA];rfl
 rw[<-ND]at ui;obtain⟨-,-,-,-,-,h5,-⟩:=ui.nM;let⟨M2,nn,oM,hnn,mM,zM⟩:=ui.qH;have Vg:=ui.WQ.kc;have E1:=af ND;let⟨Y2,Ru⟩:=aF wr;subst Ru;have P2:=af ui;have HL1:=af yM;have HPP:=af hPP;have fh:N.E=D.E:=by rw[ND]
 have qR:=af fh;have dN2:O ((N.N.map λnd=>jv nd.A).Pairwise (·<·)):=by show List.Pairwise _ _;rw[ND,sA];exact tj
 have pL:O (CI N.E N.N):=by rw[ND];exact yj
 clear qL uh gU ui yM hPP ND yj fh
 go_wp21
 refine(T.WS bn nn M2 Y2 oM (by rw[zM,aa HL1];exact hm)).h ?_;rintro r w2⟨kv,ks,rfl,zh,xg,ay⟩;obtain rfl:=aQ5 Vg dN2 mM zh;obtain⟨p,c,rfl,Qz⟩:=aO4 xg;rw[aa HL1];have HK:=af Qz;let⟨DF,eDF⟩:=bL (mw s.1 m 0 N);have hzK:=P2.blt;have HZK:=af hzK;have CR2:=af (show CR w0 iY w2 w2 b bs bn SB (PL b bs bn SB NB HB UB) N NB HB UB from⟨P2.H ay,la.Z (Fr.H ay),λz _ _=>rfl,λz hz=>hz,fq _⟩);clear Qz xg zh oM mM Vg zM ay h5 hzK;go_wp2
 go_loopw[31](λiv wr=>∃(j i:Nat)(Dk:SD)(VW Wk VN:iN),j<=m/\iv=.I j/\O (mw s.1 (m-j) i Dk=DF)/\O ((Dk.N.map (·.A)).drop i=(N.N.map (·.A)).drop j)/\O (CI Dk.E Dk.N)/\O (Dk.E.map (·.1)=N.E.map (·.1))/\O (CR w0 iY w2 wr b bs bn SB (PL b bs bn SB NB HB UB) Dk VW Wk VN)) (λiv _=>m-(jN (intOf iv)))
 exact⟨0,0,N,NB,HB,UB,cT _,rfl,eDF,cO,pL,cO,CR2⟩;{
 obtain⟨j,i,Dk,VW,Wk,VN,hj,rfl,hDF,cp9,rW,cr4,E⟩:=hrel;obtain⟨-,-,-,-,h4,h5,-⟩:=E.ps.nM;have cB:I wr (Aw w 0)=dU s.1:=cX (E.T.2 _ _ _ _ aX HY.2.1) 0;by_cases aL:j<m;{
 have cM:=bR j m;obtain⟨x,hx⟩:∃x,N.N[j]?=Y x:=⟨_,bN (by rw[aa HL1];exact aL)⟩;obtain⟨gk,rfl,KM⟩:∃gk,p=(Ad gk 0)/\I wr (Ad gk j)=Y (jJ (bf x.A)):=by obtain h0|⟨gk,rfl,h1,h2,h3⟩:=aa HK;{rw[h0]at hx;simp at hx};{refine⟨gk,rfl,?_⟩;have h4:=h3 j x hx;rw[l9]at h4;exact(gF (E.kb gk h2 (λhm=>aM (aa HZK gk hm))) j).Z h4}
 let⟨nd,hi,hpe⟩:=dr4 cp9 (P:=x.A) (by rw[qI,hx];rfl);rw[<-hpe]at KM;let⟨hT,MT,QE⟩:=rW.nt nd (bq hi);let⟨g,hh,uu,hg,jd,iK,hN,hlk⟩:=E.ps.XP hi hT.pl;let⟨B,eB⟩:=bL (nd.y.contains s.1);have R:=jq hi hg jd iK;have HT:=dy hT MT QE;have HN:=af hN;have HCB:=af (λ(v:G)(hv:Fr T3 wr v)=>cX (hv.2 _ _ _ _ aX (E.T.2 _ _ _ _ aX HY.2.1)) 0);clear hx hpe hi hT MT QE hg jd iK hN
 go_wp21
 clear KM hlk h5;refine cK (KI HN hid eB) λw5 cR=>?_;have B5:=af cR;have cB5:=aa HCB w5 (Fr.H cR);let⟨D2,Vw⟩:=bL (ko Dk i s.1);clear cR cB
 go_upto_if 44 with fail
 go_cut[](λwd=>O (PS w0 wd b bs bn D2 SB VW Wk VN)/\O (Fr T3 wr wd)/\O (Kb (PL b bs bn SB VW Wk VN) wr wd))
 case first=>(
 cases B;{
 go_wp21
 go_meet;have e2:D2=Dk:=by have:=bs6 R.1 eB;exact Vw.C.Z this
 rw[e2];exact⟨af (E.ps.H B5),af (Fr.H B5),af (Kb.H B5)⟩};{
 go_wp21
 refine(bS4 (E.ps.H B5) R.1 rW.so HT.1 hid HT.2.1 HT.2.2 eB).h ?_;rintro r w6⟨P6,⟨F6,K6⟩,v6,rfl⟩;rw[aa Vw]at P6;have HP6:=af P6;have HF6:=af ((Fr.H B5).Z F6);have HK6:=af ((Kb.H B5).Z K6 B5.size);clear P6 F6 K6
 go_wp21
 go_meet;exact⟨HP6,HF6,HK6⟩})
 case rest=>(
 obtain⟨P6,F6,K6⟩:=hcut;let⟨q1,q2,q3,gS,q4,q5,q6⟩:=CI.drop rW R.1 s.1;rw[aa Vw]at q1 q2 q3 q4;have N6:=P6.rE i gS g hh uu q4 R.2.1 R.2.2.1 R.2.2.2;obtain⟨V6,-,-,-,n1,-⟩:=N6.cells;have cB6:=aa HCB wc F6;have bD:=cE5 (m:=m-j+i) (k:=i) ae Vw q4;have bk8:=aa hDF;rw[show m-j+i-i=m-j by omega]at bD;rw[bD]at bk8;have cj2:(D2.N.map (·.A)).drop i=(N.N.map (·.A)).drop j:=by rw[q2];exact aa cp9
 have sz6:U (Q w2)<=U (Q wc):=fx E.sz F6.1;have kb6:=E.kb.Z (K6.h E.sub) E.sz;have fr6:=E.T.Z F6;have S:=nF q1 (q3.Z cr4) q4 cj2 bk8;have LR:=dy sz6 kb6 fr6;have HQ6:=af q6;clear N6 q1 q2 q3 q4 q6 bD bk8 cj2 sz6 kb6 fr6
 go_wp21
 refine Md aU (λW eW=>?_);have bW:=mW eW;have n1':=aj n1 bW;have cB7:=aj cB6 bW;have BW:=af bW;clear eW n1 cB6 bW cB5 h4
 repeat still_step
 refine rJ ?_;by_cases ho:gS.D=s.1;{
 have yL:(gS.D==s.1):=by simp[ho]
 have e7:=S.2.2.2.2;rw[aK ho,show m-j+i-1-i=m-(j+1) by omega]at e7;have E7:=af e7;have T7:=CI.tell S.1 S.2.2.1 2;have HRM:=bS2 (P6.H BW) S.2.2.1 S.1.so (af (S.1.nt gS (bq S.2.2.1)).1) S.1.kd;rw[aa HQ6]at HRM;have eP2:=af HRM;have sK:i<J D2.N:=(bu.1 S.2.2.1).1;have hp7:O (((wY (kr D2 i 2) i).N.map (·.A)).drop i=(N.N.map (·.A)).drop (j+1)):=by show List.drop i (List.map _ (List.eraseIdx _ _))=_;rw[bZ6,T7.2.1,cC2 (by rw[iH];exact sK)];exact bU8 S.2.2.2.1
 have C7:=af (CI.rm T7.1 i);have I7:O ((wY (kr D2 i 2) i).E.map (·.1)=N.E.map (·.1)):=T7.2.2.1.Z S.2.1;clear ho e7 T7 HRM sK
 go_wp21
 refine eP2.h ?_;rintro r w7⟨P7,⟨F7,K7⟩,v7,rfl⟩;have R7:=af (show CR w0 iY w2 w7 b bs bn SB (PL b bs bn SB NB HB UB) (wY (kr D2 i 2) i) (VW.eraseIdx i) (Wk.eraseIdx i) (VN.eraseIdx i)from⟨P7,(LR.2.2.Z (Fr.H BW)).Z F7,(LR.2.1.Z (Kb.H BW) LR.1).Z (K7.h E.sub) (by have:=BW.size;have:=LR.1;omega),ei6 E.sub,by have:=BW.size;have:=LR.1;have:=F7.1;omega⟩);clear P7 F7 K7 n1' cB7;go_wp2;go_roundw;exact⟨j+1,i,_,_,_,_,ae,by go_num,E7,hp7,C7,I7,R7⟩;exact dh};{
 have yL:(gS.D==s.1)=dF:=by simp[ho]
 have e7:=S.2.2.2.2;rw[aJ ho,show m-j+i-(i+1)=m-(j+1) by omega]at e7;have E7:=af e7;have hp7:=af (bU8 S.2.2.2.1);have C7:=af S.1;have I7:=af S.2.1;have R7:=af (show CR w0 iY w2 W b bs bn SB (PL b bs bn SB NB HB UB) D2 VW Wk VN from⟨P6.H BW,LR.2.2.Z (Fr.H BW),LR.2.1.Z (Kb.H BW) LR.1,E.sub,by have:=BW.size;have:=LR.1;omega⟩);clear ho e7;go_wp2;go_roundw;exact⟨j+1,i+1,_,_,_,_,ae,by go_num,E7,hp7,C7,I7,R7⟩
 case measure=>simp[intOf];omega})}
 {
 have cM:=fG j m;have e7:=aa hDF;rw[show m-j=0 by omega,mw]at e7;subst e7;have hFY:=E.T;have UY:(Dk.E.map (·.1))[k]?=s.1:=by rw[aa cr4,aa qR,qI,aa hk];rfl
 obtain⟨s2,lI,es2⟩:∃s2,Dk.E[k]?=Y s2/\s2.1=s.1:=by
  rw[qI]at UY;cases hq:Dk.E[k]? with
  |none=>rw[hq]at UY;cases UY
  |some s2=>rw[hq]at UY;exact⟨s2,rfl,by simpa using UY⟩
 have Fk:=br lI es2;clear UY lI es2
 go_wp21
 refine Aa 6 aU (λW eW=>?_);have bW:=mW eW;have PW:=E.ps.H bW;have FW:=hFY.Z (Fr.H (T:=T3) bW);have c0:I W (Aw w 0)=dU s.1:=cX (FW.2 _ _ _ _ aX HY.2.1) 0;obtain⟨-,-,-,-,k4,-⟩:=PW.nM;let⟨M4,n4,o4,UP,s4,z4⟩:=PW.uy;let⟨Z,fW,ho,Kq⟩:=o4.drop mT underlying132 fe 0;have OZ:=One.Ec PW.be Kq.grown PW.lo.2.1 (ownsMap_at o4);have PZ:=PW.es5 Fk.1 OZ (λj' z' vM e'=>by
  have cj0:=FO.1 rW.so.pw;let⟨l1,v1⟩:=bu.1 Fk.1;let⟨l2,v2⟩:=bu.1 vM;obtain hh|hh|hh:=Mz k j';{have:=cj0 k j' l1 l2 hh;rw[v1,v2]at this;omega};{exact hh.C};{have:=cj0 j' k l2 l1 hh;rw[v1,v2]at this;omega}) (λM' n' o'=>by
  rw[Fk.2];obtain⟨Tt,Yn,km,-⟩:=o'.drop mT underlying132 fe 0;rw[fW]at Yn;cases Yn;exact km)
 have eCl:xz D s.1={Dk with E:=Dk.E.eraseIdx k}:=by have e9:=aa eDF;rw[aa E1,<-aa em]at e9;unfold xz;rw[e9,<-dx6 rW.so Fk.1,Fk.2]
 rw[<-eCl]at PZ;have HPZ:=af PZ;have FZ0:=FW.Z OZ.T;have FZ:=af ((Fr.H (T:=T3) HBY).Z FZ0);have DR:=HY.2.2.T FZ0;have r0:=DR.cells;have RZ:=af DR;clear eW PZ OZ ho Kq o4 s4 z4 PW FW FZ0 DR eCl h4 h5 hFY;simp only[An,uD,yE,vG]
 repeat still_step
 refine rJ ?_;go_wp2;exact Xb RZ aU rfl rfl ⟨_,_,_,_,PS.rep HPZ RZ ae _ _ _ _ _ _ _ _,FZ.low ((uV).h ae),rfl⟩}}};{
 intro i0 pl g1 w4 xy dQ8 hp IT vQ aL dw Ym tA;let⟨j,z,Ri,hj,Dy,ee⟩:=yv hp;simp only[jk]at ee;obtain⟨rfl,rfl⟩:=ee;have qz:∀cur ty m,wr.heap[r1]?≠Y (dO cur ty m):=λcur ty m e=>by obtain⟨es,clock,since,seen,c0,-,-,-,-,hi,-⟩:=gU;rw[hi]at e;cases e
 have xr:∀es c,wr.heap[r1]?≠Y (.map es c):=λes c e=>by obtain⟨es,clock,since,seen,c0,-,-,-,-,hi,-⟩:=gU;rw[hi]at e;cases e
 have O4:=One.ofI uh.be dw dN1 qz;have P4:=uh.iter O4 (λcs ty=>qz cs ty _) xr;have F4:=la.Z O4.T;have gi:=bK6 (f:=sP s.1) hj IT;let⟨g9,hh,uu,z1,z2,z3,N4⟩:=P4.nat gi;rw[Dy]at z1;cases z1;have U5:(Instr.entry (Pz r1)).run dG w4=.ok (dT #[jJ i0,Pz g1]) w4:=tA;have JF:=dy P4 F4 gi;have JE:=br vQ aL;have R:=jq hj Dy z2 z3;have HM:=br gU.left_eq vQ.left_eq;clear qz xr O4 P4 F4 gi N4 vQ aL dw Ym hp dQ8 uh la tA z2 z3 Dy hj
 go_wp21
 refine Aa 6 aU (λW eW=>?_);have bW:=mW eW;have PW:=JF.1.H bW;have NW:=PW.rE j z g1 hh uu JF.2.2 R.2.1 R.2.2.1 R.2.2.2;obtain⟨V,-,-,-,-,-,-,-,-,n6,-⟩:=NW.cells;have FW:=JF.2.1.Z (Fr.H (T:=T3) bW);have c0:I W (Aw w 0)=dU s.1:=cX (FW.2 _ _ _ _ aX HY.2.1) 0;let⟨M4,n4,o4,UP,s4,z4⟩:=NW.zL;let⟨Z,fW,ho,Kq⟩:=o4.drop mT underlying139 fe 0;have OZ:=One.Ec PW.be Kq.grown NW.lo.2.2 (ownsMap_at o4);have SZ:=SM.del (w:=W) s4 (hC.nt z (bq R.1)).1.ON UP ho;have PZ:=PW.zL JF.2.2 R.2.1 R.2.2.1 R.2.2.2 OZ SZ;have GK:=bK3 (f:=sP s.1) (left:=left) hC.kd R.1;have PZ':O (PS w0 Z b bs bn {D with N:=CF (sP s.1) (λz'=>left z'&&!z'.sameKey (dr z.A)) D.N} SB NB HB UB):=by have:=PZ;simp only at this;rw[<-GK];exact this
 have FZ:=af (FW.Z OZ.T);have tW:Z.ranges dG 9 iB bn r1 n M (λz'=>left z'&&!z'.sameKey (dr z.A)) xy:=by
  refine bT9 JE.1 ?_ ?_;{obtain⟨M9,n9,o9,-⟩:=PW.qH;refine(OZ.k bn o9.lt (λe=>(PW.hu.2.2.1 _ (bq R.2.2.2)).2 e.C)).Z ?_;rw[eW];rfl};{
 have hi9:∃o:Obj,W.heap[r1]?=o/\∀es c,o≠.map es c:=by obtain⟨es,clock,since,seen,c0,-,-,-,-,hi,-⟩:=JE.1;exact⟨_,by rw[eW];exact hi,λes c e=>by cases e⟩
 obtain⟨o,ho9,aN⟩:=hi9;refine(OZ.k r1 (gD ho9) (λe=>?_)).Z (by rw[eW];rfl);let⟨es,c,hm4⟩:=ownsMap_at o4;rw[e,hm4]at ho9;exact aN es c (BN ho9).C}
 clear eW NW SZ PZ GK OZ ho Kq o4 s4 z4 PW FW;simp only[An,uD,yE,vG]
 repeat still_step
 refine rJ ?_;go_wp2;go_roundw;exact⟨_,_,tW,PZ',FZ⟩
 case measure=>rw[tW.left_eq,gU.left_eq];exact JE.2}}
theorem SM.nil{w:G}{u:Nat}(o:jM w dG 24 (unitElem (H:=Unit)) u 0 (.map [])):SM w u []:=
 ⟨_,0,o,aX,(λk=>by simp[Maps.has]),rfl⟩
variable {P:Program}
theorem aO9{w:G}{k:TypeId}{R:dV->Option (DataW Unit×List MemPlace)}{r:Nat}{D:DataW Unit}(h:w.ranges P k R b r n D left kK):(∀i ty m,w.heap[r]?≠Y (dO i ty m))/\∀es c,w.heap[r]?≠Y (.map es c):=by
 obtain⟨es,o,j,q,u,-,-,-,-,s,-⟩:=h;exact⟨λi ty m e=>(by rw[s]at e;cases e),λes c e=>(by rw[s]at e;cases e)⟩
theorem bn0{w:G}{SB NB HB UB:iN}(h:O (PS w0 w b bs bn D SB NB HB UB))(hK:O (KD D.N))(nw:O (∀(i j:Nat)(s s':aC),D.E[i]?=Y s->D.E[j]?=s'->i<j->s.1≠s'.1)):dQ dG 45 #[Pz b] w λr w'=>PS w0 w' b bs bn ⟨D.e,D.g,D.x,0,D.E.map lZ,D.N.map lE⟩ SB NB HB UB/\Fr T3 w w'/\∃v,r=dR v:=by
 let⟨h0,h1,h2,h3,h4,h5,hf⟩:=h.nM;have wW:=h.be.size;let⟨Z,hZ⟩:=aF (jS w (Ad b 3) (.I 0));have kZ:∀y,y≠b->Z.heap[y]?=w.heap[y]?:=λy hy=>by rw[hZ];exact fN _ _ _ _ hy
 have uE:Z.heap[b]?=dO #[.U D.e,.U D.g,.U D.x,.I 0,.map bs,.map bn] 135:=by rw[hZ];simp[World.setCell,yD,h.hd]
 have OZ:One w0 w Z b:=One.FB h.be (by rw[hZ];exact aH.setCell (p:=(Ad b 3)) az _) h.hd h.lo.1 ai (λy _ hy=>kZ y hy);have PZ:=h.ag7 OZ D.e D.g D.x 0 uE;let⟨M,n,oS,hn,mS,zS⟩:=PZ.uy;obtain⟨-,-,-,-,i4,-,-⟩:=PZ.nM;have KP:O (∀s∈D.E,Maps.has M (.U s.1)):=λs hs=>by let⟨i,hi⟩:=ji.1 hs;obtain⟨gz,AI,-⟩:=PZ.sat (i:=i) (s:=s) hi;exact(mS.hs _).2 ⟨(.U s.1,gz),by rw[ji];exact⟨i,by rw[qV,hi,AI]⟩,rfl⟩
 have HP:=af PZ;have HF:=af OZ.T;have HZs:=af OZ.b.size;have MS:=af mS;clear PZ OZ mS zS kZ uE h0 h1 h2 h5;go_in;subst hZ;go_wp2_with(first
  |(at_range;refine wpList_range_own _ rfl _ 132 rfl 24 _ mT underlying132 _ bs n _ rfl oS ?_;intro w1 uF pY xR)
  |go_in)
 have eZ:U (Q (jS w (Ad b 3) (.I 0)))=U (Q w):=ai;rw[eZ]at uF HZs;let⟨Z,hZ⟩:=aF (jS w (Ad b 3) (.I 0));rw[<-hZ]at HP HF pY eZ;have b1:Bw Z w1:=(aR _ Z).grown pY az (λj S=>by cases S);have P1:=af (HP.H b1);have F1:=af (HF.Z (Fr.H (T:=T3) b1));let⟨r1,ya⟩:=aF (U (Q w));rw[<-ya]at uF⊢;have pR:U (Q w0)<=r1:=ae;clear ya hZ eZ b1 pY xR oS i4 h3 h4 hf HP HF HZs
 go_loopw[3](λ_ wr=>∃(left:Lit->Bool)(kK:Nat),wr.ranges dG 24 iB bs r1 n M left kK/\O (PS w0 wr b bs bn ⟨D.e,D.g,D.x,0,xF lZ left D.E,D.N⟩ SB NB HB UB)/\O (Fr T3 w wr)) (λ_ wr=>wr.rangeLeft bs r1)
 exact⟨_,_,uF,by rw[bK8 (aa KP)];exact P1,F1⟩;{
 obtain⟨left,kK,gU,N,R⟩:=hrel;go_wp2_with(first
  |(at_next;refine OP _ rfl _ rfl 24 mT (λi:Int=>.int jU i) aZ2 bs r1 n _ _ MS _ _ rfl gU ?_ ?_)
  |go_in)
 {
 intro _ qL;have ui:=aa N;rw[bK9 qL]at ui;obtain⟨-,-,-,-,-,i5,-⟩:=ui.nM;let⟨M2,m,oN,hm,mN,zN⟩:=ui.qH;have dW5:O (∀nd∈D.N,Maps.has M2 (dr nd.A)):=λnd aG=>by let⟨i,hi⟩:=ji.1 aG;let⟨gz,_,_,AI,_,_⟩:=ui.nat (i:=i) (nd:=nd) hi;exact(mN.hs _).2 ⟨(dr nd.A,gz),by rw[ji];exact⟨i,by rw[qV,hi,AI]⟩,rfl⟩
 let⟨iY,eY⟩:=aF wr;subst eY;have hYs:=R.1;have P2:=af ui;have MN:=af mN;go_wp2_with(first
  |(at_range;refine wpList_range_own _ rfl _ 133 rfl 9 _ sG underlying133 _ bn m _ rfl oN ?_;intro w3 Eu pX hs3)
  |go_in)
 have b3:Bw iY w3:=(aR _ iY).grown pX az (λj S=>by cases S);have P3:=af (P2.H b3);have F3:=af (R.Z (Fr.H (T:=T3) b3));let⟨r2,vY⟩:=aF (U (Q iY));rw[<-vY]at Eu⊢;have iC:U (Q w0)<=r2:=ae;clear vY b3 pX hs3 oN i5 P2 R
 go_loopw[5](λ_ wr=>∃(left:Lit->Bool)(kK:Nat),wr.ranges dG 9 iB bn r2 m M2 left kK/\O (PS w0 wr b bs bn ⟨D.e,D.g,D.x,0,D.E.map lZ,CF lE left D.N⟩ SB NB HB UB)/\O (Fr T3 w wr)) (λ_ wr=>wr.rangeLeft bn r2)
 exact⟨_,_,Eu,by rw[bK4 (aa dW5)];exact P3,F3⟩;{
 clear Eu P3 F3;obtain⟨left,kK,gU,N,R⟩:=hrel;go_wp2_with(first
  |(at_next;refine OP _ rfl _ rfl 9 sG (λs:ByteArray=>.string s) ap5 bn r2 m _ _ MN _ _ rfl gU ?_ ?_)
  |go_in)
 {intro _ qL;have QV:=aa N;rw[bK5 qL]at QV;have X:=af QV;clear QV N;go_wp2;go_end0;exact⟨X,R,_,rfl⟩};{
 intro i0 pl g1 w4 xy fe hp IT vQ aL dw Ym tA;let⟨j,z,Ri,S,Dy,ee⟩:=yv hp;simp only[jk]at ee;obtain⟨rfl,rfl⟩:=ee;let⟨qz,xr⟩:=aO9 gU;have O4:=One.ofI N.be dw iC qz;have X:=N.iter O4 (λcs ty=>qz cs ty _) xr;have F4:=R.Z O4.T;have gi:=bK6 (f:=lE) S IT;let⟨g9,hh,uu,z1,z2,z3,N4⟩:=X.nat gi;rw[Dy]at z1;cases z1;obtain⟨V,-,-,-,-,-,-,-,-,n6,-⟩:=N4.cells;let⟨M4,n4,o4,UP,s4,z4⟩:=N4.zL;let⟨v,w5,fW,uI,nj,hs5⟩:=bR0 underlying139 o4 0;have W:=One.Ec X.be nj N4.lo.2.2 (ownsMap_at o4);have P5:=X.zL gi Dy z2 z3 W (SM.nil uI);have P6:O (PS w0 w5 b bs bn ⟨D.e,D.g,D.x,0,D.E.map lZ,CF lE (λE=>left E&&!E.sameKey (dr z.A)) D.N⟩ SB NB HB UB):=by have:=P5;simp only at this;rw[<-bK3 (f:=lE) (aa hK) S];exact this
 have F5:=af (F4.Z W.T);have tW:w5.ranges dG 9 iB bn r2 m M2 (λE=>left E&&!E.sameKey (dr z.A)) xy:=by refine bT9 vQ ?_ ?_;{obtain⟨M9,n9,o9,-⟩:=X.qH;exact W.k bn o9.lt (λe=>(X.hu.2.2.1 _ (bq z3)).2 e.C)};{obtain⟨es,clock,since,seen,c0,-,-,-,-,hi,-⟩:=vQ;refine W.k r2 (gD hi) (λe=>?_);let⟨Jj,c',hm4⟩:=ownsMap_at o4;rw[<-e,hi]at hm4;cases hm4}
 have U5:(Instr.entry (Pz r2)).run dG w4=.ok (dT #[jJ i0,Pz g1]) w4:=tA;clear dw hp fe N R O4 X F4 N4 P5 W uI nj hs5 qz xr o4 s4 z4;go_wp2;go_roundw;exact⟨_,_,tW,P6,F5⟩
 case measure=>rw[tW.left_eq,gU.left_eq];exact aL}}}
 {
 intro i0 pl g1 w2 xy fe hp IT vQ aL dw Ym tA;let⟨j,z,Ri,S,Dy,ee⟩:=yv hp;simp only[jk]at ee;obtain⟨rfl,rfl⟩:=ee;let⟨qz,xr⟩:=aO9 gU;have O2:=One.ofI N.be dw pR qz;have P2:=N.iter O2 (λcs ty=>qz cs ty _) xr;have F2:=R.Z O2.T;have gi:=bL0 (f:=lZ) S IT;let⟨a1,u,a2,a3⟩:=P2.vx j z g1 gi Dy;have gL:I w2 (Ad g1 1)=dI z.2.1:=cX a2 1;have ju:I w2 (Ad g1 2)=u:=cX a2 2;have hf:∀o,jF w2 (Ad g1 o)=dF:=λo=>by simp[World.frozen?,a2]
 let⟨ZZ,Gw⟩:=aF (jS (jS w2 (Ad g1 1) (.I 0)) (Ad g1 2) aq);have W:One w0 w2 ZZ g1:=One.FB P2.be (by rw[Gw];exact(aH.setCell (p:=(Ad g1 1)) az _).setCell (p:=(Ad g1 2)) az _) a2 a1 ai (λy _ hy=>by rw[Gw,fN _ _ _ _ hy,fN _ _ _ _ hy]);have P5:=P2.xF (s':=lZ z) gi Dy W rfl ⟨a1,aq,by rw[Gw];simp[World.setCell,yD,a2,lZ],AQ.nil _ _⟩;have P6:O (PS w0 ZZ b bs bn ⟨D.e,D.g,D.x,0,xF lZ (λE=>left E&&!E.sameKey (.U z.1)) D.E,D.N⟩ SB NB HB UB):=by have:=P5;simp only at this;rw[<-bK7 (f:=lZ) (aa nw) S];exact this
 have F5:=af (F2.Z W.T);have U5:(Instr.entry (Pz r1)).run dG w2=.ok (dT #[.U i0,Pz g1]) w2:=tA;have tW:ZZ.ranges dG 24 iB bs r1 n M (λE=>left E&&!E.sameKey (.U z.1)) xy:=by rw[Gw];exact vQ.of_walks ((KeepsWalks.setCell _ _ _).Z (KeepsWalks.setCell _ _ _))
 clear dw hp fe N R O2 P2 F2 W P5 a1 a2 a3 qz xr;go_wp2;rw[<-Gw];go_roundw;exact⟨_,_,tW,P6,F5⟩
 case measure=>rw[tW.left_eq,gU.left_eq];exact aL}}
theorem zI.Ry(h:zI ss ns):zI (ss.map lZ) (ns.map lE):=by
 refine⟨?_,?_,λs M=>?_,λS N=>?_,λi j s D o m r=>?_,λi j s D o m r=>?_⟩;{rw[BO];exact h.s1};{rw[sA];exact h.n1};{obtain⟨B,y,rfl⟩:=fg.1 M;exact⟨(h.s2 B y).1,by simp[lZ],λe he=>by simp[lZ]at he⟩};{obtain⟨E,R,rfl⟩:=fg.1 N;obtain⟨a,b,c,d,-,f,-⟩:=h.n2 E R;exact⟨a,b,c,d,by simp[lE],f,by simp[lE]⟩};{rw[qI]at o m;obtain⟨a,u,rfl⟩:=IE.1 o;obtain⟨x,q,rfl⟩:=IE.1 m;exact h.s3 i j a x u q r};{rw[qI]at o m;obtain⟨a,u,rfl⟩:=IE.1 o;obtain⟨x,q,rfl⟩:=IE.1 m;exact h.n3 i j a x u q r}
theorem eq4{x:Int}{d:Nat}(R:Le ss n)(V:Le ns m){w:G}(h:mJ w (.S p n c) ss)(hN:iy w (.S q m d) ns)(hn:Mg n)(hm:Mg m)(D:O (zI ss ns))(cW:O (Bn ns))(mU:O (Bu ns)):dQ dG 118 #[bS e g x t (.S p n c) (.S q m d)] w λr w'=>∃p' c' q' d',r=dR (bS e g x 0 (.S p' n c') (.S q' m d'))/\nG (U (Q w)) w' p' n c' q' m d' (ss.map lZ) (ns.map lE)/\Bw w w':=by
 let⟨W,hW,b1,z1,C1⟩:=sQ w (.U e) (.U g) (.U x) (.I t) (.S p n c) (.S q m d);let⟨W2,fM,b2,z2,C2⟩:=yY W;rw[z1]at C2 z2;have X:=ah b1 b2;have u:=nF (h.H X) (hN.H X) C2 X z2;clear h hN C1 C2 X b1 b2 z1 z2;go_in
 go_wp21
 rw[<-hW,<-fM];clear hW fM;refine(Ty R V u.1 u.2.1 hn hm (af λs hs=>(D.s2 s hs).1) D.s3 cW mU D.n3).h ?_;rintro r w4⟨b,bs,bn,SB,NB,HB,UB,rfl,bD,cG⟩;have P4:=af (PS.of bD cG D (aa R▸hn) (aa V▸hm));have C4:=af (u.2.2.1.H cG);clear bD cG
 go_wp21
 refine(bn0 P4 (KD.of D) D.s3).h ?_;rintro r w5⟨P5,F5,v5,rfl⟩;have C5:=af (C4.T F5);have lp:=af P5.be;have j:=D.Ry;have HS:=af (ah6 P5.WQ j.s1 j.n1 (by rw[iH,aa R];exact hn) (by rw[iH,aa V];exact hm) j.s2 j.n2);rw[show J (ss.map lZ)=n by rw[iH,aa R],show J (ns.map lE)=m by rw[iH,aa V]]at HS;clear P5 F5 P4 C4 j
 go_wp21
 refine HS.h ?_;rintro r N⟨E,cs,M,cn,A1,A2,rfl,f1,f2,f3,f4,f5,gj⟩;let⟨r0,r1,r2,r3,r4,r5,rf⟩:=(C5.H gj).cells;have Z:=fx u.2.2.2.1.size lp.size;have bb:Bw w N:=(u.2.2.2.1.Z (lp.h u.2.2.2.1.size)).Z (gj.h Z);have O6:=br (((show nG (U (Q w5)) N E n cs M m cn _ _ from⟨A1,A2,f1,f2,f3,f4,f5⟩).W (w':=fv N (U (Q w)+1) (.U e) (.U g) (.U x) (.I 0) (.S E n cs) (.S M m cn)) (λy h1 h2=>Da (by have:=lp.size;have:=u.2.2.2.2;omega))).h (B':=U (Q w)) Z) (bb.Z ((sY (w:=N) (U (Q w)+1) (.U e) (.U g) (.U x) (.I 0) (.S E n cs) (.S M m cn)).h ae));clear f1 f2 f3 f4 f5 gj bb Z HS;go_wp2;exact bO (v:=bS e g x 0 (.S E n cs) (.S M m cn)) (by simp[results,results118,go_sem,r0,r1,r2,r3,r4,r5]) rfl ⟨E,cs,M,cn,rfl,O6.1,O6.2⟩
variable {g:Nat}
theorem dG8{C:Nat}(s:O (k=J ls))(e:O (lm=cat ls))(r:Le lm n){w:G}(h:wF w g vs ls)(hl:n<=2^22)(M:k<=1000):dQ dG 81 #[.T g k C] w λe i=>∃j m,e=dR (.S j n m)/\Own (U (Q w)) i (.S j n m) lm/\Bw w i:=by
 have y:=aa s;have x:=aa e;have u:=aa r;subst y u x;go_in
 go_wp21
 refine(cE1 h hl ae).h ?_;rintro e E⟨o,B,rfl,q,D⟩;go_wp2;go_ret;exact⟨o,B,rfl,q,D⟩
def Jm(w:G)(x:LI)(c:List dV)(l:List Lf):Prop:=∃p i,c=[.S p (J x) i]/\Rd w (.S p (J x) i) x/\JB (.S p (J x) i) x l
theorem Jm.W(w w':G)(x:LI)(c:List dV)(l:List Lf)(h:Jm w x c l)(j:∀a∈l,w'.heap[a.b]?=w.heap[a.b]?):Jm w' x c l:=by
 obtain⟨p,q,o,m,i⟩:=h;exact⟨p,q,o,m.ox i j,i⟩
abbrev Sy(B:Nat)(w:G)(v:dV)(xs:List LI)(Ls:List (List Lf)):Prop:=OwnT Jm 22 1 B w v xs Ls
variable {B:Nat}
theorem Sy.one{w:G}(h:Own B w (.S p (J l) c) l)(E:B<=U (Q w)):∃Ls,Sy B (jA w (dO #[.S p (J l) c] 22)) (.T (U (Q w)) 1 1) [l] Ls:=by
 have y:Bw w (jA w (dO #[.S p (J l) c] 22)):=aH.alloc az _;have o:=Own.H h y;obtain⟨A,u,s,-,r⟩:=Xa (kd:=.u8) o;refine⟨[A],[[.S p (J l) c]],rfl,rfl,λc hc=>by simp at hc;subst hc;rfl,?_,λi x R N j hc m=>?_,by simpa using s,λa D=>?_⟩;{have:=aS7 (base:=B) (e:=22) (size:=1) w #[.S p (J l) c] 1 E aX rfl;simpa using this};{
 have:i=0:=by have:=(bu.1 j).1;simpa using this
 subst this;simp at j hc m;subst j hc m;exact⟨p,c,rfl,o.rd,u⟩};{
 have q:a∈A:=by simpa using D
 have e:=r a q;have:=(h.lt a.b e).2;intro M;simp only[jB,nJ]at M;omega}
theorem Sy.parts{w:G}(h:Sy B w (.S p n c) xs Ls)(q:J xs=n)(E:0<n):∃g vs,p=(Ad g 0)/\wF w g vs xs:=by
 obtain⟨g,rfl,-⟩:=h.ptr q E;obtain⟨cs,Z,X,D,i,y,W,V⟩:=h;rw[q]at i;refine⟨g,jL cs,rfl,?_,λj v x o m=>?_⟩;{have:=i.1;omega};{have R:=(bu.1 m).1;obtain⟨M,hc⟩:∃x,cs[j]?=Y x:=⟨_,bN ae⟩;obtain⟨l,u⟩:∃x,Ls[j]?=Y x:=⟨_,bN ae⟩;obtain⟨N,c',rfl,s,-⟩:=y j x M l m hc u;have e:=ax1 D hc (j:=0) aX;rw[ao4,Mt,o]at e;simp at e;subst e;have r:=i.cellAt j ae;rw[o]at r;exact⟨r,s⟩}
theorem OwnT.app{α:Type}{o:G->α->List dV->List Lf->Prop}{V j:G}{xs:List α}{x:α}{c:List dV}{l:List Lf}(h:OwnT o ty sz B V v xs Ls)(D:∀w u x c l,o w x c l->(∀a∈l,u.heap[a.b]?=w.heap[a.b]?)->o u x c l)(r:Bw V j)(E:o j x c l)(hc:J c=sz)(W:je (U (Q V)) j l)(R:B<=U (Q V)):∃row,j.ownsRow B ty sz v (J xs) row/\∀m q,q.ownsRow B ty sz m (J xs+1) (row++c)->jG j q (jB v)->(∀g,jB m=Y g->jB v=Y g\/U (Q j)<=g)→
   OwnT o ty sz B q m (xs++[x]) (Ls++[l])/\∃p s,m=.S p (J xs+1) s:=by
 have y:=h.lt;let⟨cs,g1,g2,g3,g4,g5,g6,g7⟩:=h.H D r;refine⟨jL cs,g4,λm q Z M X=>?_⟩;have sn:=OwnT.snoc g1 g2 g3 g5 g6 g7 D E hc W R (λa N=>(y.2 a N).2) (λb r=>(y.1 b r).2) Z M X;refine⟨sn,?_⟩;obtain⟨p,s,e,-⟩:=sn.read;rw[eG]at e;exact⟨p,s,e⟩
theorem RG{w:G}{t:TypeId}:∀j u,cs[j]?=Y u->I (jA w (dO cs.toArray t)) (Aw w j)=Y u:=λj u i=>(aO.alloc w cs.toArray t).1 j u (by simpa using i)
theorem Jm.of{w:G}{d:LI}(e:J d=M)(r:Rd w (.S p M c) d)(q:JB (.S p M c) d lb):Jm w d [.S p M c] lb:=by
 subst e;exact⟨p,c,rfl,r,q⟩
theorem aW5{α:Type}{F:α->LI}{l:List α}{y:α}{D:LI}(i:l[k]?=y)(j:F y=D):(vi n::(jT k l).map F)++[D]=vi n::(jT (k+1) l).map F:=by
 rw[sE,i,rI,<-j];rfl
theorem dA9{α:Type}{F:α->LI}{l:List α}(h:k<=J l):J (vi n::(jT k l).map F)=k+1:=by
 rw[ni,iH,te];omega
def oq{α:Type}(f:α->LI)(l:List α):LI:=cat (vi (J l)::l.map f)
def ke(i:Int):LI:=vi (jN i)
def LiI{α:Type}(F:α->LI)(n:Nat)(l:List α)(w:G)(pv m:dV)(wr:G):Prop:=∃(k:Nat)(i:OA)(j:Nat)(o:List (List Lf)),k<=n/\pv=.S i (k+1) j/\m=.I k/\O (Sy (U (Q w)) wr (.S i (k+1) j) (vi n::(jT k l).map F) o)/\Bw w wr
theorem dB0{α:Type}{F:α->LI}{l:List α}{c2:Nat}{w:G}(j:J l=n)(h:Sy B w (.S p2 (n+1) c2) (vi n::(jT n l).map F) Ls):∃iG vs,p2=(Ad iG 0)/\O (wF w iG vs (vi n::l.map F))/\O (n+1=J (vi n::l.map F))/\O (oq F l=cat (vi n::l.map F)):=by
  subst j;rw[Kg]at h;let⟨iG,vs,e,i⟩:=h.parts ai ae;exact⟨iG,vs,e,i,(by show _=_;simp),cO⟩
theorem liW{q:Prop}(h':q:=by
    let⟨ib,UZ,ki,fy,gJ⟩:=og Tryz.infoSl;have HR:=af λ(w':G)(hb:Bw w w')=>h.H hb;clear h;have wn:IntKind.u64.wrap (n:Int)=(n:Int):=by rw[uW];omega
    show dQ _ _ _ _ _;go_in
    go_wp21
    refine(Tu ae).h ?_;rintro r w1⟨p1,c1,rfl,o1,b1⟩;let⟨Ls0,hP⟩:=Sy.one o1 b1.size;let⟨v0,fU⟩:=aF (w1.alloc (dO #[.S p1 (J (vi n)) c1] 22));have hb0:Bw w v0:=fU▸b1.alloc b1.size _;rw[<-fU]at hP;have HP:=af hP;clear hP o1;generalize J (vi n)=M at*;go_wp2;rw[<-fU];clear fU b1
    first
      |(go_loopw[5,15](LiI ke n l w) (λ_ iv _=>n-(intOf iv).toNat))
      |(go_loopw[5,15](LiI qp n l w) (λ_ iv _=>n-(intOf iv).toNat))
      |(go_loopw[5,15](LiI kR n l w) (λ_ iv _=>n-(intOf iv).toNat))
    {exact⟨0,_,_,_,cT _,rfl,rfl,HP,hb0⟩};{
 obtain⟨k,p2,c2,Ls,hk,rfl,rfl,ho,aB⟩:=hrel;by_cases aL:k<n;{
 have cM:=bR k n;have db:k<J l:=aa en▸aL;let⟨y,hy⟩:=sj db;have wk:IntKind.i64.wrap ((k:Int)+1)=((k+1:Nat):Int):=by rw[l8 _ ae];omega
 first
   | (have T0:LI:=l
      have hi:=aa hu y (bq hy);obtain⟨v,rfl⟩:∃v:Nat,y=(v:Int):=⟨y.toNat,ae⟩;obtain⟨b,o,rfl,hc⟩:∃b o,p=(Ad b o)/\I wr (Ad b (o+k))=dU v:=by let⟨p',c',ev,hd⟩:=aa HR _ aB;obtain⟨rfl,-,-⟩:=mg ev;obtain h0|⟨b,o,h1,h2⟩:=hd;{rw[h0]at db;simp at db};{refine⟨b,o,h1,?_⟩;have:=h2 k db;rw[iR,hy,ta]at this;exact this}
      have EL:=af (aW5 (n:=n) (F:=ke) hy (D:=vi v) rfl);clear db hy
      go_wp21
      have km:=ho;have YS:=aB;refine(Tu ae).h ?_;rintro r w3⟨p3,c3,rfl,o3,aE⟩;obtain⟨M3,Rw⟩:∃M,O (J (vi v)=M):=⟨_,rfl⟩;rw[aa Rw]at o3⊢;clear hc ho aB)
   | (have T0:List aC:=l
      obtain⟨i,dl,qu⟩:=y;have hi:=aa hu _ (bq hy);dsimp only at hi;obtain⟨v,rfl⟩:∃v:Nat,i=(v:Int):=⟨i.toNat,ae⟩;obtain⟨b,o,rfl,yQ,gL,pq,nq,cq,ju⟩:∃b o,p=(Ad b o)/\I wr (Ad b (o+k*3))=dU v/\I wr (Ad b (o+k*3+1))=dI dl/\∃pq nq cq,I wr (Ad b (o+k*3+2))=dS pq nq cq:=by let⟨p',c',ev,hd⟩:=aa HR _ aB;obtain⟨rfl,-,-⟩:=mg ev;obtain h0|⟨b,o,h1,h2⟩:=hd;{rw[h0]at db;simp at db};{let⟨d1,d2,u,d3,d4⟩:=h2 k _ hy;obtain⟨pq,cq,rfl,-⟩:=d4;exact⟨b,o,h1,d1,d2,pq,_,cq,d3⟩}
      have EL:=af (aW5 (n:=n) (F:=qp) hy (D:=vi v) rfl);clear db hy
      go_wp21
      let⟨X,hX⟩:=aF (wr.alloc (dO #[.U v,.I dl,.S pq nq cq] 65));have tZ:=ij hX;have km:=af (ho.H Jm.W tZ);have YS:=ah aB tZ;rw[<-hX];clear hX ho aB tZ;refine(CS v dl pq nq cq X ae).h ?_;rintro r w3⟨p3,c3,rfl,o3,aE⟩;obtain⟨M3,Rw⟩:∃M,O (J (vi v)=M):=⟨_,rfl⟩;rw[aa Rw]at o3⊢;clear yQ gL ju)
   | (have hi:=hu.d y (bq hy)
      have hlen:=(aQ9 hu.w y (bq hy)).1;obtain⟨b,o,rfl,PP,PV,PH,PU,Ew⟩:∃b o,p=(Ad b o)/\∃P V H iU,Hl wr b (o+k*8) y P V H iU:=by let⟨p',c',ev,hd⟩:=aa HR _ aB;obtain⟨rfl,-,-⟩:=mg ev;obtain h0|⟨b,o,h1,h2⟩:=hd;{rw[h0]at db;simp at db};{exact⟨b,o,h1,h2 k _ hy⟩}
      obtain⟨pA,cA,nA,rfl,eA⟩:=Ew.r0.fO;obtain⟨pB,cB,nB,rfl,eB⟩:=Ew.r1.fO;obtain⟨pD,cD,nD,rfl,eD⟩:=Ew.r4.fO;obtain⟨pU,cU,nU,rfl,-⟩:=Ew.r7.fO;obtain⟨yQ,gL,ju,Gu,AM,xv,AL,hc7,q0,q1,q4,-,-⟩:=Ew;have QQ:=dy q0 q1 q4;obtain⟨⟨j1,j2,j3⟩,j4,j5,j6,j7,j8⟩:=hi;rw[aa eA]at j1;rw[aa eB]at j2;rw[aa eD]at j3;have J8:=af j8;obtain⟨ow,EW⟩:∃v:Nat,y.D=(v:Int):=⟨y.D.toNat,ae⟩;obtain⟨ep,Vt⟩:∃v:Nat,y.P=(v:Int):=⟨y.P.toNat,ae⟩;obtain⟨ge,Vs⟩:∃v:Nat,y.F=(v:Int):=⟨y.F.toNat,ae⟩;obtain⟨mo,Vq⟩:∃v:Int,y.M=v:=⟨_,rfl⟩;rw[EW]at ju j5;rw[Vt]at xv j6;rw[Vs]at AL j7;rw[Vq]at Gu j4;obtain⟨M3,Rw⟩:∃M,O (J (kR y)=M):=⟨_,cO⟩;have eNB:O (kR y=Ed y.A y.V ow mo y.y ep ge):=by show _=_;rw[kR,EW,Vt,Vs,Vq];rfl
      have em4:O (J (Ed y.A y.V ow mo y.y ep ge)=M3):=by show _=_;rw[<-aa eNB];exact aa Rw
      rw[aa Rw]at hlen;clear q0 q1 q4 j8 EW Vt Vs Vq;have EL:=af (aW5 (n:=n) (F:=kR) hy (D:=kR y) rfl);clear db hy
      go_wp21
      let⟨X,hX⟩:=aF (wr.alloc (dO #[.S pA nA cA,.S pB nB cB,.U ow,.I mo,.S pD nD cD,.U ep,.U ge,.S pU nU cU] 69));have tZ:=ij hX;have km:=af (ho.H Jm.W tZ);have YS:=ah aB tZ;rw[<-hX];refine(CN pA pB pD nA cA nB cB nD cD (.S pU nU cU) y.A y.V y.y ow ep ge mo eA eB eD X (QQ.1.H tZ) (QQ.2.1.H tZ) (QQ.2.2.H tZ) ae ae ae J8 ae ae ae j4 M3 em4 ae).h ?_;clear hX ho aB tZ;rintro r w3⟨p3,c3,rfl,o3,aE⟩;rw[<-aa eNB]at o3;clear yQ gL ju Gu AM xv AL hc7)
 let⟨v3,gx⟩:=aF (w3.alloc (dO #[.S p3 M3 c3] 22));have hA:=ij gx;have hcZ:∀j u,([.S p3 M3 c3]:List dV)[j]?=Y u->I v3 (Aw w3 j)=Y u:=gx▸RG;have z4:U v3.heap=U w3.heap+1:=by rw[gx];simp
 have o4:=Own.H o3 hA;obtain⟨lb,q1,q2,-,-⟩:=Xa (kd:=.u8) o4;have z3:=aE.size;have zr:=YS.size;have Yw:=af λb eb=>(km.lt.1 b eb).1;let⟨row,vP,vV⟩:=km.app Jm.W (ah aE hA) (Jm.of Rw o4.rd q1) rfl q2 zr;rw[dA9 (by rw[aa en];omega)]at vP vV;have JI:=af vV;have Cz:=af vP;have b3:=af (ah YS (ah aE hA));have yi:=af hcZ;clear vV vP o3 o4 q1 q2 km aE hA YS hcZ;go_wp2_with(at_builtin;rw[<-gx];refine Fu rfl 40 rfl ib 1 underlying40 UZ ki fy gJ rfl aX (.S p2 (k+1) c2) rfl Cz (U w3.heap) 1 1 [.S p3 M3 c3] rfl rfl yi (λu hu=>by simp at hu;subst hu;rfl) kL ae ae ?_);intro v' w9 gC hg AJ;have gR:∀g,v'.ownBlock=Y g->(Value.slice p2 (k+1) c2).ownBlock=Y g\/U v3.heap<=g:=λg eg=>by have:=AJ g eg;rw[gx];simpa using this
 rw[<-gx]at hg;obtain⟨sn,p9,c9,rfl⟩:=aa JI v' w9 gC hg gR;rw[aa EL]at sn;have me:Bw w w9:=b3.grown hg b3.size (λb hb=>aa Yw b hb);have SN:=af sn;clear sn EL gC hg gR AJ gx JI Cz b3;go_wp2;go_roundw;{exact⟨k+1,_,_,_,ae,rfl,by go_num,SN,me⟩};{simp[intOf];omega}};{
 have cM:=fG k n;obtain rfl:n=k:=ae;obtain⟨iG,vs,rfl,hPa,LX,EE⟩:=dB0 en ho;clear ho hk aL
 go_wp21
 refine(dG8 LX EE eN hPa hN ae).h ?_;rintro r w5⟨p5,c5,rfl,o5,cR⟩;have b5:=ah aB cR;have O5:=af (Own.h (B':=U w.heap) o5 aB.size);clear o5 cR;go_wp2;go_ret;exact⟨p5,c5,rfl,O5,b5⟩}}):q:=h'
theorem dA5(en:Le l n){w:G}(h:RdU w (.S p n c) l)(m:n<=900)(hu:O (∀i∈l,0<=i/\i<2^64))(eN:O (J (oq ke l)=N))(hN:N<=2^22):Cp 180 #[.S p n c,.func (.func 119) #[] #[]] w λe w'=>∃p' c',e=dR (.S p' N c')/\Own (U (Q w)) w' (.S p' N c') (oq ke l)/\Bw w w':=liW
abbrev wV(w:G)(b:Nat)(v0 v1 v2 v3 v4 v5 v6 v7:dV):Prop:=I w (Ad b 0)=v0/\I w (Ad b 1)=v1/\I w (Ad b 2)=v2/\I w (Ad b 3)=v3/\I w (Ad b 4)=v4/\I w (Ad b 5)=v5/\I w (Ad b 6)=v6/\I w (Ad b 7)=v7
theorem wV.H{w w':G}(h:wV w b v0 v1 v2 v3 v4 v5 v6 v7)(i:Bw w w'):wV w' b v0 v1 v2 v3 v4 v5 v6 v7:=
 ⟨aj h.1 i,aj h.2.1 i,aj h.2.2.1 i,aj h.2.2.2.1 i,aj h.2.2.2.2.1 i,aj h.2.2.2.2.2.1 i,aj h.2.2.2.2.2.2.1 i,aj h.2.2.2.2.2.2.2 i⟩
theorem dp3(h:I u (Ad b 0)=Y (jK .u8 y)):Rd u (.T b 1 1) [y]:=by
 refine⟨_,_,rfl,.R ⟨b,0,rfl,λi j=>?_⟩⟩;obtain rfl:i=0:=by simpa using j
 simpa using h
theorem Tv{v:Nat}{w:G}(q:v<2^64)(o:O (J (vi v)=M)):Cp 119 #[.U v] w λe i=>∃j m,e=dR (.S j M m)/\Own (U (Q w)) i (.S j M m) (vi v)/\Bw w i:=by
 obtain rfl:=aa o;exact Tu q
theorem dG9{l0 l1 l2 E D B y:LI}(e:O (lm=cat [l0,l1,l2,E,D,B,y]))(en:Le lm N)(r0:Rd X v0 l0)(r1:Rd X v1 l1)(Z:Rd X v2 l2)(W:Rd X v3 E)(V:Rd X v4 D)(R:Rd X v5 B)(M:Rd X v6 y)(hl:N<=2^22):Cp 81 #[.T (U (Q X)) 7 7] (jA X (dO #[v0,v1,v2,v3,v4,v5,v6] 22)) λe u=>∃r s,e=dR (.S r N s)/\Own (U (Q X)) u (.S r N s) lm/\Bw X u:=by
 have q:Bw X (jA X (dO #[v0,v1,v2,v3,v4,v5,v6] 22)):=aH.alloc az _;refine(Ep (vs:=[v0,v1,v2,v3,v4,v5,v6]) [l0,l1,l2,E,D,B,y] 7 rfl e en ⟨rfl,λj v x m i=>?_⟩ hl ae).h ?_;{
 match j,m,i with
 |0,m,i=>simp at m i;subst m i;exact⟨ai,r0.H q⟩
 |1,m,i=>simp at m i;subst m i;exact⟨ai,r1.H q⟩
 |2,m,i=>simp at m i;subst m i;exact⟨ai,Z.H q⟩
 |3,m,i=>simp at m i;subst m i;exact⟨ai,W.H q⟩
 |4,m,i=>simp at m i;subst m i;exact⟨ai,V.H q⟩
 |5,m,i=>simp at m i;subst m i;exact⟨ai,R.H q⟩
 |6,m,i=>simp at m i;subst m i;exact⟨ai,M.H q⟩}
 {rintro e u⟨r,s,rfl,o,hb⟩;exact⟨r,s,rfl,Own.h o ai,ah q hb⟩}
def Ed(P V:LI)(i:Nat)(j:Int)(H:LI)(o m:Nat):LI:=cat [tx P,tx V,vi i,[j],oq ke H,vi o,vi m]
def kR(nd:au):LI:=Ed nd.A nd.V (jN nd.D) nd.M nd.y (jN nd.P) (jN nd.F)
theorem dx5(p q r:OA)(n c m d k f:Nat)(iU:dV)(P V H:LI)(y D B:Nat)(x:Int)(eP:Le P n)(eV:Le V m)(eH:Le H k)(w:G)(hP:Rd w (.S p n c) P)(hV:Rd w (.S q m d) V)(hH:RdU w (.S r k f) H)(bn:Mg n)(bm:Mg m)(bk:k<=900)(hu:O (∀i∈H,0<=i/\i<2^64))(b1:y<2^64)(b2:D<2^64)(b3:B<2^64)(bmo:0<=x/\x<=2)(N:Nat)(eN:O (J (Ed P V y x H D B)=N))(hN:N<=2^22):dQ dG 123 #[Ka (.S p n c) (.S q m d) y x (.S r k f) D B iU] w λe w'=>∃p' c',e=dR (.S p' N c')/\Own (U (Q w)) w' (.S p' N c') (Ed P V y x H D B)/\Bw w w':=by
 have HP:=af λ(w':G)(u:Bw w w')=>aD (hP.H u) (aD (hV.H u) (hH.H u));clear hP hV hH;have wm:IntKind.u8.wrap x=x:=by rw[Ki];omega
 obtain⟨N0,e0⟩:∃M,O (J (tx P)=M):=⟨_,cO⟩;obtain⟨N1,e1⟩:∃M,O (J (tx V)=M):=⟨_,cO⟩;obtain⟨N2,e2⟩:∃M,O (J (vi y)=M):=⟨_,cO⟩;obtain⟨N4,e4⟩:∃M,O (J (oq ke H)=M):=⟨_,cO⟩;obtain⟨N5,e5⟩:∃M,O (J (vi D)=M):=⟨_,cO⟩;obtain⟨N6,e6⟩:∃M,O (J (vi B)=M):=⟨_,cO⟩;have QW:N4<=2^22:=by have h1:=aa eN;have h2:=aa e4;simp only[Ed,cat,vH,eG]at h1;omega
 have EE:O (Ed P V y x H D B=cat [tx P,tx V,vi y,[x],oq ke H,vi D,vi B]):=by show _=_;rfl
 let⟨W0,bG⟩:=aF (jA w (dO #[.S p n c,.S q m d,.U y,.I x,.S r k f,.U D,.U B,iU] 69));have Jq:=ij bG;have hA8:wV W0 (U (Q w)) (.S p n c) (.S q m d) (.U y) (.I x) (.S r k f) (.U D) (.U B) iU:=by rw[bG];simp[wV,go_sem]
 go_in
 go_wp21
 rw[<-bG];let⟨v,fU⟩:=aF W0.drew;have X:O (Bw w v):=fU▸Jq.drew;have S:O (wV v (U (Q w)) (.S p n c) (.S q m d) (.U y) (.I x) (.S r k f) (.U D) (.U B) iU):=fU▸hA8;refine fK (λw'=>wV w' (U (Q w)) (.S p n c) (.S q m d) (.U y) (.I x) (.S r k f) (.U D) (.U B) iU) (fU▸aa S) λhS=>?_;rw[<-fU]at hS⊢;clear fU bG Jq hA8;refine jh 0 1 3 4 6 7 9 10 hS ?_;refine iL 11 13 14 16 hS ?_;refine gh 17 19 hS ?_;refine tn 20 hS ?_
 iterate 7 (
  all_goals(first|refine uz 2 (λs hK=>?_)|refine uz 5 (λs hK=>?_)|refine uz 8 (λs hK=>?_)|refine uz 15 (λs hK=>?_)|refine uz 18 (λs hK=>?_)|refine uz 21 (λs hK=>?_)|refine uz 12 (λs hK=>?_)|refine yA 2 12 (λs hK=>?_) (λs hK=>?_)|refine yA 5 12 (λs hK=>?_) (λs hK=>?_)|refine yA 8 12 (λs hK=>?_) (λs hK=>?_)|refine yA 12 15 (λs hK=>?_) (λs hK=>?_)|refine yA 12 18 (λs hK=>?_) (λs hK=>?_)|refine yA 12 21 (λs hK=>?_) (λs hK=>?_))
  all_goals(first
   |(
    refine Tag.go 2 (js (ag9 eP (aa HP _ X).1 bn e0) ?_);rintro z9 W⟨pA,cA,rfl,o,u⟩;refine⟨_,rfl,?_⟩;have RA:=af o.rd;clear o)
   |(
    refine Tag.go 5 (js (ag9 eV (aa HP _ X).2.1 bm e1) ?_);rintro z9 W⟨pB,cB,rfl,o,u⟩;refine⟨_,rfl,?_⟩;have RB:=af o.rd;clear o)
   |(
    refine Tag.go 8 (js (Tv b1 e2) ?_);rintro z9 W⟨pC,cC,rfl,o,u⟩;refine⟨_,rfl,?_⟩;have RC:=af o.rd;clear o)
   |(
    refine Tag.go 15 (CK (dA5 eH (aa HP _ X).2.2 bk hu e4 QW) ?_);rintro z9 W⟨pD,cD,rfl,o,u⟩;refine⟨_,rfl,?_⟩;have RD:=af o.rd;clear o)
   |(
    refine Tag.go 18 (js (Tv b2 e5) ?_);rintro z9 W⟨pE,cE,rfl,o,u⟩;refine⟨_,rfl,?_⟩;have RE:=af o.rd;clear o)
   |(
    refine Tag.go 21 (js (Tv b3 e6) ?_);rintro z9 W⟨pF,cF,rfl,o,u⟩;refine⟨_,rfl,?_⟩;have RF:=af o.rd;clear o)
   |(
    refine Tag.go 12 ?_;go_simp;let⟨W,hv⟩:=aF (jA v (dO #[jK .u8 x] 5));have u:=ij hv;have hp:I W (Ad (U (Q v)) 0)=Y (jK .u8 x):=by rw[hv];simp
    rw[<-hv];let⟨GL,hGL⟩:=aF (U (Q v));rw[<-hGL]at hp⊢;have RL:=af (dp3 hp);clear hv hp hGL))
  all_goals(
   have S:=af (S.H u);have X:=af (ah X u)
   try have RA:=af (RA.H u)
   try have RB:=af (RB.H u)
   try have RC:=af (RC.H u)
   try have RD:=af (RD.H u)
   try have RE:=af (RE.H u)
   try have RF:=af (RF.H u)
   try have RL:=af (RL.H u)
   refine bQ hK (by exact S) λhS=>?_;clear hK s u
   rename G=>v
   skip))
 all_goals(
  refine ft 22 (λs hK=>?_);go_simp;let⟨iY,hY⟩:=aF (jA v (dO #[.S pA N0 cA,.S pB N1 cB,.S pC N2 cC,.T GL 1 1,.S pD N4 cD,.S pE N5 cE,.S pF N6 cF] 22));have hbY:=ij hY;have SY:=af (S.H hbY);have JJ:=af (dG9 EE eN RA RB RC RL RD RE RF hN);rw[<-hY]at JJ⊢;refine bQ hK (by exact SY) λhS=>?_;clear hK s hY hbY;refine ft 23 (λs hK=>?_);refine js JJ ?_;rintro z9 Z⟨pj,cj,rfl,oj,ly⟩;refine⟨_,rfl,?_⟩;have FI:=br (Own.h (B':=U (Q w)) oj X.size) (ah (aa X) ly);refine bQ hK (by exact S.H ly) λhS=>?_;clear hK s oj ly;refine tn 24 hS ?_;refine ga ?_;clear hS;go_wp2;go_ret;exact⟨pj,cj,rfl,FI⟩
  skip)
def qp(s:aC):LI:=vi (jN s.1)
theorem dh8(v:Nat)(d:Int)(p:OA)(n c:Nat)(w:G)(D:v<2^64):dQ dG 121 #[jP #[.U v,.I d,.S p n c]] w λe i=>∃j o,e=dR (.S j (J (vi v)) o)/\Own (U (Q w)) i (.S j (J (vi v)) o) (vi v)/\Bw w i:=by
 go_in
 go_wp21
 have x:Bw w (jA w (dO #[.U v,.I d,.S p n c] 65)):=aH.alloc az _;refine(Tu D).h ?_;rintro r E⟨s,y,rfl,m,q⟩;have B:=ah x q;have u:=Own.h (B':=U (Q w)) m ai;clear m q;go_wp2;go_ret;exact⟨s,y,rfl,u,B⟩
theorem dA6{l:List aC}(en:Le l n){w:G}(h:mJ w (.S p n c) l)(m:n<=900)(hu:O (∀s∈l,0<=s.1/\s.1<2^64))(eN:O (J (oq qp l)=N))(hN:N<=2^22):Cp 120 #[.S p n c,.func (.func 121) #[] #[]] w λe w'=>∃p' c',e=dR (.S p' N c')/\Own (U (Q w)) w' (.S p' N c') (oq qp l)/\Bw w w':=by
 have CS:=@dh8;exact liW
def mP(e g x:Nat)(ss:List aC)(ns:List au):LI:=cat [vi e,vi g,vi x,oq qp ss,oq kR ns]
theorem cc5{α:Type}(f:α->LI)(h:α->α)(hf:∀x,f (h x)=f x)(l:List α):oq f (l.map h)=oq f l:=by
 rw[oq,oq,iH,sA];congr 2;exact My λx _=>hf x
theorem Pc(e g x:Nat)(ss:List aC)(ns:List au):mP e g x (ss.map lZ) (ns.map lE)=mP e g x ss ns:=by
 rw[mP,mP,cc5 qp lZ (λ_=>rfl),cc5 kR lE (λ_=>rfl)]
theorem aA7{α:Type}(f:α->LI)(C:Nat):∀l:List α,(∀x∈l,J (f x)<=C)->J (cat (l.map f))<=C*J l
 |[],_=>cT _
 |x::l,h=>by have j:=aA7 f C l λy i=>h y (by simp[i]);have m:=h x ai;rw[mR,cat,vH,eG,ni,cb5];rw[cat]at j;omega
theorem IF{α:Type}(f:α->LI)(l:List α):oq f l=vi (J l)++cat (l.map f):=by rw[oq,cat,vH,cat]
structure zl(ss:List aC)(ns:List au):Prop where
 n1:J ss<=50
 n2:J ns<=200
 s:∀s∈ss,0<=s.1/\s.1<2^64
 d:∀nd∈ns,(J nd.A<=136/\J nd.V<=40/\J nd.y<=50)/\(0<=nd.M/\nd.M<=2)/\(0<=nd.D/\nd.D<2^64)/\(0<=nd.P/\nd.P<2^64)/\(0<=nd.F/\nd.F<2^64)/\∀i∈nd.y,0<=i/\i<2^64
theorem zl.w(h:zl ss ns):SmW ss ns:=⟨fx h.n1 (by decide),fx h.n2 (by decide),h.s,λi j=>by
 let⟨⟨a,b,c⟩,d,e⟩:=h.d i j;exact⟨⟨a,ae,ae⟩,ae,e⟩⟩
theorem zl.Ry(h:zl ss ns):zl (ss.map lZ) (ns.map lE):=by
 refine⟨by rw[iH];exact h.n1,by rw[iH];exact h.n2,λs o=>?_,λr q=>?_⟩;{obtain⟨j,i,rfl⟩:=fg.1 o;exact h.s j i};{obtain⟨m,i,rfl⟩:=fg.1 q;exact h.d m i}
theorem ai2{g x:Int}(h:mY e g x t ss ns)(D:Bu ns)(B:Bo ns)(u:∀nd∈ns,(0<=nd.P/\nd.P<2^64)/\0<=nd.F/\nd.F<2^64):zl ss ns:=by
 let⟨V,S,R,h4,N⟩:=(aK7 e g x t ss ns).1 h;simp only[ME,lx]at V;refine⟨ae,ae,aM3 S ae,λnd j=>?_⟩;have s:=R;rw[BM,gI]at s;have Gg:∀y∈ns,yB e g y:=(Jr ns jt (yB e g)).1 λi o=>lW.1 s.1 i (xl.2 o);have r:=Gg nd j;simp only[yB,gI,lx]at r;obtain⟨Z,X,m,W,g5⟩:=r;refine⟨⟨JR Z,X,?_⟩,?_,B nd j,(u nd j).1,(u nd j).2,(D nd j).1⟩;{
 have M:=bv6 W;have q:nd.y.Nodup:=M.imp (λ{a b}yS=>ae);have:=XU nd.y (ss.map (·.1)) q λi o=>by have:=N nd j i (by unfold JA;simp[o]);obtain⟨z,E,rfl⟩:=(aW4 (ss:=ss) (i:=i)).1 this;exact fg.2 ⟨z,E,rfl⟩
 rw[iH]at this;omega};{unfold qx at m;split at m;{omega};{simp only[gI]at m;have:=m.2.2;split at this;{omega};{simp only[gI,Ee]at this;omega}}}
theorem aQ9(h:SmW ss ns):∀nd∈ns,J (kR nd)<=800/\J (oq ke nd.y)<=520:=by
 intro nd i;obtain⟨⟨q,o,m⟩,-⟩:=h.d nd i;have E:=Ib nd.A;have D:=Ib nd.V;have B:=qm (jN nd.D);have y:=qm (jN nd.P);have u:=qm (jN nd.F);have j:J (oq ke nd.y)<=520:=by have s:=qm (J nd.y);have r:=aA7 ke 10 nd.y λx _=>(qm _).2;rw[IF,eG];omega
 refine⟨?_,j⟩;simp only[kR,Ed,cat,vH,aV2,eG,ni,xk];omega
variable {e:Nat}
theorem aK8(h:SmW ss ns):J (mP e g x ss ns)<=190000/\J (oq qp ss)<=600/\J (oq kR ns)<=170000:=by
 have B:=qm e;have y:=qm g;have u:=qm x;have s:=qm (J ss);have r:=aA7 qp 10 ss λx _=>(qm _).2;have q:=qm (J ns);have o:=aA7 kR 800 ns λx i=>(aQ9 h x i).1;have:=h.n1;have:=h.n2;have m:J (oq qp ss)<=600:=by rw[IF,eG];omega
 have j:J (oq kR ns)<=170000:=by rw[IF,eG];omega
 refine⟨?_,m,j⟩;simp only[mP,cat,vH,aV2,eG,xk];omega
def Ct(e g x t:Int)(ss:List aC)(ns:List au):LI:=if mY e g x t ss ns then mP (jN e) (jN g) (jN x) ss ns else[]
theorem Own.nil(B:Nat)(w:G):Own B w aq []:=⟨rfl,.L ⟨rfl,rfl⟩⟩
def rL{α σ:Type}(f:σ->α×σ):Nat->σ->List α×σ
 |0,o=>([],o)
 |k+1,o=>((rL f k o).1++[(f (rL f k o).2).1],(f (rL f k o).2).2)
theorem dp5{α σ:Type}(f:σ->α×σ)(k:Nat)(o:σ):rL f (k+1) o=((f o).1::(rL f k (f o).2).1,(rL f k (f o).2).2):=by
 induction k with
 |zero=>rfl
 |succ k ih=>rw[rL,ih];rfl
theorem JX{α σ:Type}(f:σ->α×σ)(k:Nat)(o:σ):(rL f k o).1.length=k:=by
 induction k with
 |zero=>rfl
 |succ k ih=>rw[rL,eG,ih];rfl
theorem aP0{α:Type}(f:Option LI->α×Option LI)(g:α->LI):∀(xs:List α)(rest:LI),(∀x∈xs,∀r,f (Y (g x++r))=(x,Y r))->rL f (J xs) (Y (cat (xs.map g)++rest))=(xs,Y rest)
 |[],rest,_=>rfl
 |x::xs,rest,h=>by rw[ni,dp5,mR,cat,vH,pO,h x ai];have:=aP0 f g xs rest λy i=>h y (by simp[i]);rw[cat]at this;simp only[this]
def Ac(o:Option LI):Option (au×Option LI):=
 let a:=oT o;let b:=oT a.2;let c:=oV b.2;let d:=oB c.2;let h:=oV d.2
 if h.2=dN\/50<h.1 then dN
 else
  let l:=rL oV (jN h.1) h.2;let e:=oV l.2;let g:=oV e.2
  Y (⟨a.1,b.1,c.1,d.1,l.1,e.1,g.1,[]⟩,g.2)
def rB:Nat->Option LI->Option (List au×Option LI)
 |0,o=>Y ([],o)
 |k+1,o=>(rB k o).bind λr=>(Ac r.2).map λq=>(r.1++[q.1],q.2)
theorem df0(k:Nat)(o:Option LI):rB (k+1) o=(Ac o).bind λq=>(rB k q.2).map λr=>(q.1::r.1,r.2):=by
 induction k with
 |zero=>
  simp only[rB,Am,Ef];cases Ac o<;>rfl
 | succ k ih=>
  rw[rB,ih];cases Ac o with
  |none=>rfl
  | some q=>
   simp only[Am];rw[rB];cases rB k q.2 with
   |none=>rfl
   |some r=>
    simp only[Iv,Am];cases Ac r.2<;>rfl
def yI(i:Int):aC:=(i,0,[])
def BJ(l:LI):Option ((Int×Int×Int)×List aC×List au×Option LI):=
 let a:=oV l;let b:=oV a.2;let c:=oV b.2;let d:=oV c.2
 if d.2=dN\/50<d.1 then dN
 else
  let s:=rL oV (jN d.1) d.2;let m:=oV s.2
  if m.2=dN\/200<m.1 then dN
  else(rB (jN m.1) m.2).map λr=>((a.1,b.1,c.1),s.1.map yI,r.1,r.2)
def kI(l:LI):Option ((Int×Int×Int)×List aC×List au):=
 (BJ l).bind λr=>if r.2.2.2≠dN/\mY r.1.1 r.1.2.1 r.1.2.2 0 r.2.1 r.2.2.1/\mP (jN r.1.1) (jN r.1.2.1) (jN r.1.2.2) r.2.1 r.2.2.1=l then Y (r.1,r.2.1,r.2.2.1)else dN
variable {s:Nat}
theorem Pm(h:s<2^64):oV (Y (vi s++r))=((s:Int),Y r):=by
 rw[oV,Mh r h]
theorem bW4(P:LI)(h:J P<2^64):oT (Y (tx P++r))=(P,Y r):=by
 rw[oT,aN4 r h]
variable {i:Int}
theorem Xh(h:0<=i/\i<2^64)(r:LI):oV (Y (ke i++r))=(i,Y r):=by
 rw[ke,Pm ae,Ga h.1]
theorem df2(h:zl ss ns)(y:nd∈ns)(j:nd.X=[])(r:LI):Ac (Y (kR nd++r))=Y (nd,Y r):=by
 let⟨⟨M,E,D⟩,B,x,u,q,o⟩:=h.d nd y;have e:kR nd++r=tx nd.A++(tx nd.V++(ke nd.D++([nd.M]++(vi (J nd.y)++(cat (nd.y.map ke)++(ke nd.P++(ke nd.F++r))))))):=by rw[kR,Ed,IF];simp[cat,ke]
 rw[e,Ac];simp only[bW4 nd.A ae,bW4 nd.V ae,Xh x,Al,Ef,oB];rw[Pm (s:=J nd.y) ae];simp only[sC];rw[aJ cg,aP0 oV ke nd.y _ λi m r=>Xh (o i m) r];simp only[Xh u,Xh q,nJ,jk,ca1];rw[<-j]
theorem bO0(h:zl ss ns):∀(xs:List au)(r:LI),(∀x∈xs,x∈ns/\x.X=[])->rB (J xs) (Y (cat (xs.map kR)++r))=Y (xs,Y r)
 |[],r,_=>rfl
 |x::xs,r,hx=>by rw[ni,df0,mR,cat,vH,pO,df2 h (hx x ai).1 (hx x ai).2];have:=bO0 h xs r λy i=>hx y (by simp[i]);rw[cat]at this;simp only[Am,this,Iv]
theorem bM9(e g x:Nat)(ss:List aC)(ns:List au):mP e g x ss ns=vi e++(vi g++(vi x++(vi (J ss)++(cat (ss.map qp)++(vi (J ns)++(cat (ns.map kR)++[])))))):=by
 rw[mP,IF,IF];simp[cat]
theorem dh9:ss.map qp=(ss.map (·.1)).map ke:=by
 rw[sA];rfl
theorem dK1(h:∀s∈ss,s.2=(0,[])):(ss.map (·.1)).map yI=ss:=by
 rw[sA]
 conv=>rhs;rw[<-aV5 ss]
 refine My λs i=>?_;obtain⟨a,b⟩:=s;have:=h _ i;simp only at this;simp[yI,this]
theorem bN8(he:e<2^64)(B:g<2^64)(m:x<2^64)(h:zl ss ns)(E:∀s∈ss,s.2=(0,[]))(D:∀nd∈ns,nd.X=[]):BJ (mP e g x ss ns)=Y (((e:Int),(g:Int),(x:Int)),ss,ns,Y []):=by
 have N:=h.n1;have M:=h.n2;rw[bM9,BJ];simp only[Pm he,Pm B,Pm m,Pm (show J ss<2^64 by omega),sC];have q:rL oV (J ss) (Y (cat (ss.map qp)++(vi (J ns)++(cat (ns.map kR)++[]))))=(ss.map (·.1),Y (vi (J ns)++(cat (ns.map kR)++[]))):=by
  have:=aP0 oV ke (ss.map (·.1)) (vi (J ns)++(cat (ns.map kR)++[])) λi u r=>by obtain⟨s,o,rfl⟩:=fg.1 u;exact Xh (h.s s o) r
  rw[iH]at this;rw[dh9,this]
 rw[aJ cg,q];simp only[Pm (show J ns<2^64 by omega),sC];rw[aJ cg,bO0 h ns [] λy j=>⟨j,D y j⟩,dK1 E];rfl
abbrev Rs:Type:=LI×Bool
def gu(s:Rs):Int×Rs:=sN 10 0 0 s.1 s.2
def uX{α:Type}(f:Rs->α×Rs):Nat->List α->Rs->List α×Rs
 |0,acc,s=>(acc,s)
 |k+1,acc,s=>if(f s).2.2 then([],(f s).2)else uX f k (acc++[(f s).1]) (f s).2
def lF{α:Type}(f:Rs->α×Rs)(s:Rs):List α×Rs:=uX f (gu s).1.toNat [] (gu s).2
def Ih(s:Rs):aC×Rs:=(yI (gu s).1,(gu s).2)
def Ag(s:Rs):au×Rs:=
 let a:=sT s.1 s.2;let b:=sT a.2.1 a.2.2;let c:=gu b.2;let d:=sB c.2.1 c.2.2;let h:=lF gu d.2;let e:=gu h.2;let g:=gu e.2
 (⟨a.1,b.1,c.1,d.1,h.1,e.1,g.1,[]⟩,g.2)
def tT(l:LI):(Int×Int×Int)×List aC×List au×Rs:=
 let a:=gu (l,dF);let b:=gu a.2;let c:=gu b.2;let s:=lF Ih c.2;let n:=lF Ag s.2
 ((a.1,b.1,c.1),s.1,n.1,n.2)
def uZ(l:LI):Option ((Int×Int×Int)×List aC×List au):=
 let r:=tT l
 if r.2.2.2.2=dF/\Ct r.1.1 r.1.2.1 r.1.2.2 0 r.2.1 r.2.2.1=l then Y (r.1,r.2.1,r.2.2.1)else dN
theorem WX(h:s<2^64):gu (vi s++r,dF)=((s:Int),r,dF):=aN1 (rest:=r) (sh:=dF) h
theorem WW(h:0<=i/\i<2^64)(r:LI):gu (ke i++r,dF)=(i,r,dF):=by
 rw[ke,WX ae,Ga h.1]
theorem cc6{α:Type}(f:Rs->α×Rs)(g:α->LI):∀(xs acc:List α)(rest:LI),(∀x∈xs,∀r,f (g x++r,dF)=(x,r,dF))->uX f (J xs) acc (cat (xs.map g)++rest,dF)=(acc++xs,rest,dF)
 |[],acc,rest,_=>by simp[uX,cat]
 |x::xs,acc,rest,h=>by rw[ni,uX,mR,cat,vH,pO,h x ai];have:=cc6 f g xs (acc++[x]) rest λy i=>h y (by simp[i]);rw[cat]at this;rw[aJ ai];simp only[this,pO,Al,Ef]
theorem aX3{α:Type}(f:Rs->α×Rs)(g:α->LI)(xs:List α){rest:LI}(hl:J xs<2^64)(h:∀x∈xs,∀r,f (g x++r,dF)=(x,r,dF)):lF f (vi (J xs)++(cat (xs.map g)++rest),dF)=(xs,rest,dF):=by
 rw[lF,WX hl];simp only[sC];rw[cc6 f g xs [] rest h];rfl
theorem di8(h:zl ss ns)(x:nd∈ns)(j:nd.X=[]):Ag (kR nd++r,dF)=(nd,r,dF):=by
 let⟨⟨E,D,B⟩,y,u,s,q,o⟩:=h.d nd x;have e:kR nd++r=tx nd.A++(tx nd.V++(ke nd.D++(nd.M::(vi (J nd.y)++(cat (nd.y.map ke)++(ke nd.P++(ke nd.F++r))))))):=by rw[kR,Ed,IF];simp[cat,ke]
 rw[e,Ag];simp only[ai7 nd.A (sh:=dF) ae,ai7 nd.V (sh:=dF) ae,WW u,sB];rw[aX3 gu ke nd.y ae λi m r=>WW (o i m) r];simp only[WW s,WW q,jk,ca1];rw[<-j]
theorem dJ8(he:e<2^64)(q:g<2^64)(o:x<2^64)(h:zl ss ns)(B:∀s∈ss,s.2=(0,[]))(u:∀nd∈ns,nd.X=[]):tT (mP e g x ss ns)=(((e:Int),(g:Int),(x:Int)),ss,ns,[],dF):=by
 have E:=h.n1;have D:=h.n2;rw[bM9,tT];simp only[WX he,WX q,WX o];rw[aX3 Ih qp ss ae λs j r=>by have:=WW (h.s s j) r;obtain⟨a,b⟩:=s;have m:=B _ j;simp only at m;rw[Ih,qp,<-ke,this];simp[yI,m]]
 simp only;rw[aX3 Ag kR ns ae λy i r=>di8 h i (u y i) (r:=r)]
theorem Mf{s:Rs}(h:s.2):(gu s).2.2:=aN2 10 0 0 s.1 s.2 h
theorem dB6{α:Type}(f:Rs->α×Rs)(hf:∀s:Rs,s.2->(f s).2.2):∀(k:Nat)(acc:List α)(s:Rs),s.2->(uX f k acc s).2.2=dY
 |0,_,_,h=>h
 |k+1,acc,s,h=>by rw[uX,aK (hf s h)];exact hf s h
theorem aX4{α:Type}(f:Rs->α×Rs)(hf:∀s:Rs,s.2->(f s).2.2){s:Rs}(h:s.2):(lF f s).2.2:=dB6 f hf _ _ _ (Mf h)
theorem di9(s:Rs)(h:s.2):(Ag s).2.2:=
 Mf (Mf (aX4 gu (λ_=>Mf) (ai9 (Mf (ai8 (ai8 h))))))
theorem dJ9:(tT []).2.2.2.2:=by
 have i:(gu (([],dF):Rs)).2.2:=by unfold gu;show(sN 10 0 0 [] dF).2.2=dY;rw[sN];simp[sB]
 exact aX4 Ag di9 (aX4 Ih (λ_=>Mf) (Mf (Mf i)))
def Hh(i:Int):Prop:=0<=i/\i<2^64
structure Oi(nd:au):Prop where
 by0:aA nd.A
 by1:aA nd.V
 l0:J nd.A<=2^20
 l1:J nd.V<=2^20
 l4:J nd.y<=2^20
 l7:nd.X=[]
 ow:Hh nd.D
 ep:Hh nd.P
 ge:Hh nd.F
 ho:∀i∈nd.y,Hh i
 mo:0<=nd.M/\nd.M<256
theorem xh:Hh (oV om).1:=bV9
theorem aP1{α σ:Type}(f:σ->α×σ)(P:α->Prop)(j:σ->Prop)(hf:∀s,j s->P (f s).1/\j (f s).2)(k:Nat)(o:σ)(m:j o):(∀x∈(rL f k o).1,P x)/\j (rL f k o).2:=by
 induction k with
 |zero=>exact⟨λx i=>by simp[rL]at i,m⟩
 |succ k ih=>
  rw[rL];let⟨r,q⟩:=hf _ ih.2;refine⟨λx i=>?_,q⟩;obtain i|i:=jg.1 i;{exact ih.1 x i};{rw[td]at i;rw[i];exact r}
theorem df1(i:J l=n)(q:aA l)(hl:Mg n)(m:ik n l o)(h:Ac o=Y (nd,o')):Oi nd/\ik n l o'/\J nd.y<=50:=by
 rw[Ac]at h;have y:=al2 i m;have E:=al2 i y;have x:=vz i E;have D:=al3 i x;have B:=vz i D;have u:=Ue q m;have r:=Ue q y;have R:=dv9 q x;simp only at h;split at h;{cases h};{
 next hc=>
 simp only[nJ,jk]at h;obtain⟨rfl,rfl⟩:=h;let⟨N,M⟩:=aP1 oV Hh (ik n l) (λs m=>⟨xh,vz i m⟩) (oV (oB (oV (oT (oT o).2).2).2).2).1.toNat _ B;have j:=JX oV (oV (oB (oV (oT (oT o).2).2).2).2).1.toNat (oV (oB (oV (oT (oT o).2).2).2).2).2;have S:(rL oV (oV (oB (oV (oT (oT o).2).2).2).2).1.toNat (oV (oB (oV (oT (oT o).2).2).2).2).2).1.length<=50:=by rw[j];simp only[Iu,Int.not_lt]at hc;omega
 exact⟨⟨u.1,r.1,by have:=u.2;simp only;omega,by have:=r.2;simp only;omega,by simp only;omega,rfl,xh,xh,xh,N,R⟩,vz i (vz i M),S⟩}
theorem ah8(B:J l=n)(s:aA l)(hl:Mg n)(k:Nat)(m:ik n l o)(h:rB k o=Y (ns,o')):(∀nd∈ns,Oi nd)/\ik n l o'/\J ns=k:=by
 induction k generalizing ns o' with
 |zero=>
  simp only[rB,nJ,jk]at h;obtain⟨rfl,rfl⟩:=h;exact⟨λnd i=>(by simp at i),m,rfl⟩
 | succ k ih=>
  rw[rB]at h;cases h1:rB k o with
  |none=>rw[h1]at h;cases h
  | some r=>
   obtain⟨M,j⟩:=r;rw[h1]at h;let⟨y,x,u⟩:=ih h1;simp only[Am]at h;cases h2:Ac j with
   |none=>rw[h2]at h;cases h
   |some q=>
    obtain⟨R,N⟩:=q;rw[h2]at h;simp only[Iv,nJ,jk]at h;obtain⟨rfl,rfl⟩:=h;obtain⟨E,D,-⟩:=df1 B s hl x h2;refine⟨λnd i=>?_,D,by rw[eG,u];rfl⟩;obtain i|i:=jg.1 i;{exact y nd i};{rw[td]at i;rw[i];exact E}
def Okf{α:Type}(f:Rs->α×Rs)(P:α->Prop):Prop:=∀s:Rs,aA s.1->J s.1<=2^20->P (f s).1/\aA (f s).2.1/\(f s).2.1.length<=J s.1/\((f s).2.2=dF->(f s).2.1.length<J s.1)
theorem xH:Okf gu Hh:=λs q E=>by
 let⟨D,B,y,x⟩:=WY 10 0 0 s.1 s.2 q ae;refine⟨⟨y,x⟩,D,B,λj=>?_⟩;obtain⟨m,i⟩:=s;cases m with
 |nil=>
  have:(gu (([],i):Rs)).2.2:=by unfold gu;show(sN 10 0 0 [] i).2.2=dY;rw[sN];simp[sB]
  rw[this]at j;cases j
 |cons c t=>
  show(sN 10 0 0 (c::t) i).2.1.length<_;rw[sN];split;{simp[sB]};{have:=(WY 9 (0+1) (xA 0 0 c) t i (λz r=>q z (by simp[r])) (aC0)).2.1;simp only[sB,ni];omega}
theorem cc7{α:Type}{f:Rs->α×Rs}{P:α->Prop}(hf:Okf f P):∀(k:Nat)(acc:List α)(s:Rs),aA s.1->J s.1<=2^20->(∀x∈acc,P x)->(∀x∈(uX f k acc s).1,P x)/\aA (uX f k acc s).2.1/\(uX f k acc s).2.1.length<=J s.1/\(uX f k acc s).1.length<=J acc+J s.1
 |0,acc,s,hb,hl,ha=>⟨ha,hb,fq _,Nat.le_add_right _ _⟩
 |k+1,acc,s,hb,hl,ha=>by
  let⟨u,j,r,q⟩:=hf s hb hl;rw[uX];split;{exact⟨λx i=>(by simp at i),j,r,cT _⟩};{
 next hs=>
 have o:(f s).2.2=dF:=by simpa using hs
 have D:=q o;let⟨B,y,E,m⟩:=cc7 hf k (acc++[(f s).1]) (f s).2 j ae λx i=>by obtain i|i:=jg.1 i;{exact ha x i};{rw[td]at i;rw[i];exact u}
 refine⟨B,y,ae,?_⟩;rw[eG]at m;simp only[ni,xk]at m;omega}
theorem Uy{α:Type}{f:Rs->α×Rs}{P:α->Prop}(hf:Okf f P){s:Rs}(j:aA s.1)(hl:J s.1<=2^20):(∀x∈(lF f s).1,P x)/\aA (lF f s).2.1/\(lF f s).2.1.length<=J s.1/\(lF f s).1.length<=J s.1:=by
 let⟨D,o,m,B⟩:=xH s j hl;let⟨y,u,r,q⟩:=cc7 hf (gu s).1.toNat [] (gu s).2 o ae λx i=>(by simp at i);simp only[xk]at q;exact⟨y,u,fx r m,by unfold lF;omega⟩
def eF9(s:aC):Prop:=Hh s.1/\s.2=(0,[])
theorem aM9:Okf Ih eF9:=λs j i=>by
 let⟨r,q,o,m⟩:=xH s j i;exact⟨⟨r,rfl⟩,q,o,m⟩
theorem aN0:Okf Ag Oi:=λs j X=>by
 let⟨W,V,a3,a4⟩:=TJ (sh:=s.2) j;let⟨S,R,b3,b4⟩:=TJ (sh:=(sT s.1 s.2).2.2) V;let⟨N,M,c3,c4⟩:=xH (sT (sT s.1 s.2).2.1 (sT s.1 s.2).2.2).2 R ae;let⟨E,D,B,d4⟩:=TK (sh:=(gu (sT (sT s.1 s.2).2.1 (sT s.1 s.2).2.2).2).2.2) M;let⟨y,x,e3,e4⟩:=Uy xH E ae;let⟨u,r,f3,f4⟩:=xH (lF gu (sB (gu (sT (sT s.1 s.2).2.1 (sT s.1 s.2).2.2).2).2.1 (gu (sT (sT s.1 s.2).2.1 (sT s.1 s.2).2.2).2).2.2).2).2 x ae;let⟨q,o,Z,m⟩:=xH (gu (lF gu (sB (gu (sT (sT s.1 s.2).2.1 (sT s.1 s.2).2.2).2).2.1 (gu (sT (sT s.1 s.2).2.1 (sT s.1 s.2).2.2).2).2.2).2).2).2 r ae;refine⟨⟨W,S,by show _<=_;simp only[Ag];omega,by show _<=_;simp only[Ag];omega,by show _<=_;simp only[Ag];omega,rfl,N,u,q,y,⟨D,B⟩⟩,o,?_,λi=>?_⟩;{show(gu (gu (lF gu (sB (gu (sT (sT s.1 s.2).2.1 (sT s.1 s.2).2.2).2).2.1 (gu (sT (sT s.1 s.2).2.1 (sT s.1 s.2).2.2).2).2.2).2).2).2).2.1.length<=_;omega};{have:=m i;show(gu (gu (lF gu (sB (gu (sT (sT s.1 s.2).2.1 (sT s.1 s.2).2.2).2).2.1 (gu (sT (sT s.1 s.2).2.1 (sT s.1 s.2).2.2).2).2.2).2).2).2).2.1.length<_;omega}
theorem aj6{e g x:Int}(h:mY e g x t ss ns)(hr:∀nd∈ns,Oi nd):zl ss ns:=
 ai2 h (λnd j=>⟨(hr nd j).ho,λi m=>by rw[(hr nd j).l7]at m;simp at m⟩) (λnd j=>(hr nd j).ow) (λnd j=>⟨(hr nd j).ep,(hr nd j).ge⟩)
theorem dd9(hb:aA l)(hl:Mg (J l)):kI l=uZ l:=by
 have tu:∀s,kI l=Y s->uZ l=Y s:=λs h=>by
  rw[kI]at h;cases hr:BJ l with
  |none=>rw[hr]at h;cases h
  |some r=>
   rw[hr,Am]at h;split at h;{
 next hc=>
 obtain⟨⟨e,g,x⟩,ss,ns,o⟩:=r;simp only[nJ]at h hc;obtain⟨-,m,hB⟩:=hc;have j:=hr;rw[BJ]at j;simp only at j;have q1:=ik.start (n:=J l) (l:=l) rfl;have q2:=vz rfl q1;have q3:=vz rfl q2;have q4:=vz rfl q3;have q5:=vz rfl q4;split at j;{cases j};{
 let⟨u1,u2⟩:=aP1 oV Hh (ik (J l) l) (λs q=>⟨xh,vz rfl q⟩) (oV (oV (oV (oV l).2).2).2).1.toNat _ q5;split at j;{cases j};{
 rw[IE]at j;obtain⟨⟨r1,r2⟩,h3,h4⟩:=j;obtain⟨v1,-,-⟩:=ah8 rfl hb hl _ (vz rfl u2) h3;simp only[jk]at h4;obtain⟨⟨rfl,rfl,rfl⟩,rfl,rfl,rfl⟩:=h4;have R:=aj6 m v1;have M:=xh (om:=Y l);have E:=xh (om:=(oV l).2);have D:=xh (om:=(oV (oV l).2).2);have w1:∀s∈((rL oV (oV (oV (oV (oV l).2).2).2).1.toNat (oV (oV (oV (oV l).2).2).2).2).1.map yI),s.2=(0,[]):=λs q=>by obtain⟨i,-,rfl⟩:=fg.1 q;rfl
 have u:=dJ8 (e:=(oV l).1.toNat) (g:=(oV (oV l).2).1.toNat) (x:=(oV (oV (oV l).2).2).1.toNat) (by have:=M.2;have:=M.1;omega) (by have:=E.2;have:=E.1;omega) (by have:=D.2;have:=D.1;omega) R w1 (λN X=>(v1 N X).l7);rw[hB,Ga M.1,Ga E.1,Ga D.1]at u;rw[uZ];simp only[u];rw[aK ⟨gQ,by rw[Ct,aK m];exact hB⟩,<-h]}}};{cases h}
 have S:∀s,uZ l=Y s->kI l=Y s:=λs h=>by
  rw[uZ]at h;split at h;{
 next hc=>
 obtain⟨UJ,y⟩:=hc;have m:mY (tT l).1.1 (tT l).1.2.1 (tT l).1.2.2 0 (tT l).2.1 (tT l).2.2.1:=by by_cases hk:mY (tT l).1.1 (tT l).1.2.1 (tT l).1.2.2 0 (tT l).2.1 (tT l).2.2.1=dY;{exact hk};{rw[Ct,aJ hk]at y;rw[<-y,dJ9]at UJ;cases UJ}
 rw[Ct,aK m]at y;obtain⟨Z,a2,B,-⟩:=xH (l,dF) hb hl;obtain⟨W,b2,b3,-⟩:=xH (gu (l,dF)).2 a2 (by simp only at B;omega);obtain⟨V,c2,c3,-⟩:=xH (gu (gu (l,dF)).2).2 b2 (by simp only at B;omega);obtain⟨d1,d2,d3,-⟩:=Uy aM9 c2 (by simp only at B;omega);obtain⟨e1,-⟩:=Uy aN0 d2 (by simp only at B;omega);have R:=aj6 m e1;have Gh:=bN8 (e:=(tT l).1.1.toNat) (g:=(tT l).1.2.1.toNat) (x:=(tT l).1.2.2.toNat) (by have:=Z.2;have:=Z.1;show(gu (l,dF)).1.toNat<_;omega) (by have:=W.2;have:=W.1;show(gu (gu (l,dF)).2).1.toNat<_;omega) (by have:=V.2;have:=V.1;show(gu (gu (gu (l,dF)).2).2).1.toNat<_;omega) R (λs q=>(d1 s q).2) (λN X=>(e1 N X).l7);rw[y,Ga (show 0<=(tT l).1.1 from Z.1),Ga (show 0<=(tT l).1.2.1 from W.1),Ga (show 0<=(tT l).1.2.2 from V.1)]at Gh;rw[kI,Gh,Am,aK ⟨ai,m,y⟩];exact h};{cases h}
 cases h:kI l with
 |some s=>exact(tu s h).C
 |none=>
  cases h2:uZ l with
  |none=>rfl
  |some s=>rw[S s h2]at h;cases h
theorem ZQ(h:∀l∈ls,aA l):aA (cat ls):=λz i=>by
 rw[cat,FN]at i;obtain⟨l,j,i⟩:=i;exact h l j z i
theorem WC(h:Hh i):aA (ke i):=BH (by have:=h.1;have:=h.2;omega)
theorem bK1(h:aA l)(hl:J l<2^64):aA (tx l):=aA.app (BH hl) h
theorem dx9(h:Oi nd):aA (kR nd):=by
 rw[kR,Ed];refine ZQ λl j=>?_;simp only[gv,Up,Uw]at j;obtain rfl|rfl|rfl|rfl|rfl|rfl|rfl:=j;{exact bK1 h.by0 (aM h.l0)};{exact bK1 h.by1 (aM h.l1)};{exact WC h.ow};{intro z m;rw[td]at m;rw[m];exact h.mo};{rw[oq];refine ZQ λl j=>?_;obtain rfl|j:=gv.1 j;{exact BH (aM h.l4)};{obtain⟨i,o,rfl⟩:=fg.1 j;exact WC (h.ho i o)}};{exact WC h.ep};{exact WC h.ge}
theorem ah7(he:e<2^64)(o:g<2^64)(j:x<2^64)(h:zl ss ns)(hr:∀nd∈ns,Oi nd):aA (mP e g x ss ns):=by
 have u:=h.n1;have r:=h.n2;rw[mP];refine ZQ λl i=>?_;simp only[gv,Up,Uw]at i;obtain rfl|rfl|rfl|rfl|rfl:=i;{exact BH he};{exact BH o};{exact BH j};{rw[oq];refine ZQ λl i=>?_;obtain rfl|i:=gv.1 i;{exact BH ae};{obtain⟨s,m,rfl⟩:=fg.1 i;exact WC (h.s s m)}};{rw[oq];refine ZQ λl i=>?_;obtain rfl|i:=gv.1 i;{exact BH ae};{obtain⟨nd,q,rfl⟩:=fg.1 i;exact dx9 (hr nd q)}}
variable {o:Obj}
theorem Z6{w w':G}(h:w.heap[b]?=o)(i:Bw w w'):w'.heap[b]?=o:=(i.block b (Ke.1 h).1).Z h
theorem cG7{w:G}:(jA w o).heap[U (Q w)]?=o:=by unfold World.alloc;simp
theorem cG8{w w':G}(m:Own B w v l)(o:jG w w' (jB v)):∀(b:Nat)(cs:iA)(t:TypeId),t≠5->w.heap[b]?=dO cs t->w'.heap[b]?=dO cs t:=λb cs t j h=>by
 refine(o.block b (Ke.1 h).1 λe=>?_).Z h;obtain⟨rfl,-⟩|⟨g,r,q,rfl,-,i,-⟩:=m.2;{simp[jB]at e};{simp only[jB,nJ]at e;subst e;rw[h]at i;simp only[nJ,Obj.cells.injEq]at i;exact j i.2.1}
def cM1(w w':G):Prop:=∀(b:Nat)(cs:iA)(t:TypeId),t≠5->w.heap[b]?=dO cs t->w'.heap[b]?=dO cs t
variable {s x:Operand}{o:Oper}{L:Nat}
theorem cW8{w0 w:G}{iZ:iE}(iq:o.guard=dN) (ho:o.op=.call {callee:=.builtin .append,args:=#[s,x],argTypes:=#[22,22]})(hB:O (Bw w0 w)){m:LI}(lK:O (lm=l++m))(hk:Le m k)(eL:Le l L)(Vu:O (L'=L+k))(hs:a.eval s=v)(hx:a.eval x=.S p k c)(du:O (Own (U (Q w0)) w v l))(hr:O (Rd w (.S p k c) m))(hl:L+k<=2^22)(hK:∀p' c' w',O (Own (U (Q w0)) w' (.S p' L' c') lm)->Le lm L'->O (Bw w0 w')->O (cM1 w w')->wpList dG ops iZ rest (a.put o.dst (.S p' L' c')) w'):wpList dG ops iZ (o::rest) a w:=by
 have e1:J lm=L':=by rw[aa lK,eG,aa eL,aa hk,aa Vu]
 refine CD iq ho v lK p c k hk hs hx du hr (by rw[aa eL,aa hk];exact hl) hB.size ?_;intro p' c' w' h1 h2;rw[e1]at h1⊢;exact hK p' c' w' h1 e1 (Bp hB h2 du az hB.size) (cG8 du h2)
theorem cW7{iZ:iE}(iq:o.guard=dN) (ho:o.op=.call {callee:=.builtin .append,args:=#[s,x],argTypes:=#[22,22]})(hB:O (Bw w0 u))(lK:O (lm=l++[y]))(eL:Le l L)(Vu:O (L'=L+1))(hs:a.eval s=v)(hx:a.eval x=.T (U (Q u)) 1 1)(du:O (Own (U (Q w0)) u v l))(hl:L<2^22)(hK:∀p' c' w',O (Own (U (Q w0)) w' (.S p' L' c') lm)->Le lm L'->O (Bw w0 w')->O (cM1 u w')->wpList dG ops iZ rest (a.put o.dst (.S p' L' c')) w'):wpList dG ops iZ (o::rest) a (jA u (dO #[jK .u8 y] 5)):=by
 have e1:J lm=L':=by rw[aa lK,eG,aa eL,aa Vu];rfl
 have hb:Bw u (jA u (dO #[jK .u8 y] 5)):=aH.alloc az _;have km:=du.H hb;have fw:=ah hB hb;refine OQ iq ho v lK (U (Q u)) hs hx km ai (aa eL▸hl) fw.size ?_;intro p' c' w' h1 h2;rw[e1]at h1⊢;exact hK p' c' w' h1 e1 (Bp fw h2 km az fw.size) λb cs t ht h=>cG8 km h2 b cs t ht (Z6 h hb)
theorem gH.nZ{w:G}{e g x:Int}{S N:dV}(h:w.heap[b]?=dO #[.U e,.U g,.U x,.I t,S,N] ty):gH w b e g x t S N:=⟨cX h 0,cX h 1,cX h 2,cX h 3,cX h 4,cX h 5⟩
theorem wV.nZ{w:G}(h:w.heap[b]?=dO #[v0,v1,v2,v3,v4,v5,v6,v7] ty):wV w b v0 v1 v2 v3 v4 v5 v6 v7:=⟨cX h 0,cX h 1,cX h 2,cX h 3,cX h 4,cX h 5,cX h 6,cX h 7⟩
theorem Gd{v:Nat}{w:G}(q:v<2^64)(o:O (J (vi v)=M)):Cp 74 #[.U v] w λe i=>∃j m,e=dR (.S j M m)/\Own (U (Q w)) i (.S j M m) (vi v)/\Bw w i:=aX8 9 v w ae q ae M o
theorem bt4{α:Type}(f:α->LI){l:List α}{y:α}(h:l[k]?=y):cat ((jT (k+1) l).map f)=cat ((jT k l).map f)++f y:=by
 rw[sE,h,rI,cat,Uu,cat];simp
theorem dc9(e g x:Nat)(ss:List aC)(ns:List au):mP e g x ss ns=((((vi e++vi g)++vi x)++vi (J ss))++cat (ss.map qp)++vi (J ns))++cat (ns.map kR):=by
 rw[mP,IF,IF];simp[cat]
theorem dx8(nd:au):kR nd=((((((tx nd.A++tx nd.V)++ke nd.D)++[nd.M])++vi (J nd.y))++cat (nd.y.map ke))++ke nd.P)++ke nd.F:=by
 rw[kR,Ed,IF];simp[cat,ke]
def BF(w0:G)(m:iA)(j:TypeId)(o:Nat)(c2:iA)(i:TypeId)(w:G)(v:dV)(l:LI):Prop:=Own (U (Q w0)) w v l/\Bw w0 w/\w.heap[U (Q w0)]?=dO m j/\w.heap[o]?=dO c2 i
theorem BF.yZ{w0 w w':G}(h:BF w0 c1 t1 b2 c2 t2 w v l)(i:Bw w w'):BF w0 c1 t1 b2 c2 t2 w' v l:=⟨Own.H h.1 i,ah h.2.1 i,Z6 h.2.2.1 i,Z6 h.2.2.2 i⟩
theorem DX{w0 w:G}{iZ:iE}(iq:o.guard=dN)(ho:o.op=.call {callee:=.builtin .append,args:=#[s,x],argTypes:=#[22,22]}){m:LI}(hQ:O (BF w0 c1 t1 b2 c2 t2 w v l))(lK:O (lm=l++m))(hk:Le m k)(eL:Le l L)(hs:a.eval s=v)(hx:a.eval x=.S p k c)(hr:O (Rd w (.S p k c) m))(hl:L+k<=2^22)(hK:∀p' c' w' L',O (BF w0 c1 t1 b2 c2 t2 w' (.S p' L' c') lm)->Le lm L'->L'<=L+k->wpList dG ops iZ rest (a.put o.dst (.S p' L' c')) w')(h1:t1≠5:=by decide)(h2:t2≠5:=by decide):wpList dG ops iZ (o::rest) a w:=
 cW8 iq ho hQ.2.1 lK hk eL rfl hs hx hQ.1 hr hl λp' c' w' k1 k2 k3 k4=>hK p' c' w' _ (af ⟨k1,k3,k4 _ _ _ h1 hQ.2.2.1,k4 _ _ _ h2 hQ.2.2.2⟩) k2 az
theorem cW9{iZ:iE}(iq:o.guard=dN)(ho:o.op=.call {callee:=.builtin .append,args:=#[s,x],argTypes:=#[22,22]})(hQ:O (BF w0 c1 t1 b2 c2 t2 u v l))(lK:O (lm=l++[y]))(eL:Le l L)(hs:a.eval s=v)(hx:a.eval x=.T (U (Q u)) 1 1)(hl:L<2^22)(hK:∀p' c' w' L',O (BF w0 c1 t1 b2 c2 t2 w' (.S p' L' c') lm)->Le lm L'->L'<=L+1->wpList dG ops iZ rest (a.put o.dst (.S p' L' c')) w')(h1:t1≠5:=by decide)(h2:t2≠5:=by decide):wpList dG ops iZ (o::rest) a (jA u (dO #[jK .u8 y] 5)):=
 cW7 iq ho hQ.2.1 lK eL rfl hs hx hQ.1 hl λp' c' w' k1 k2 k3 k4=>hK p' c' w' _ (af ⟨k1,k3,k4 _ _ _ h1 hQ.2.2.1,k4 _ _ _ h2 hQ.2.2.2⟩) k2 az
theorem aY1{x:Nat}(he:e<2^64)(hg:g<2^64)(hx:x<2^64){d:Nat}(en:Le ss n)(em:Le ns m){w:G}(h:mX w (.S p n c) ss)(hN:iy w (.S q m d) ns)(HS:O (SmW ss ns))(eN:O (J (mP e g x ss ns)=N)):dQ dG 38 #[bS e g x t (.S p n c) (.S q m d)] w λr w'=>∃p' c',r=dR (.S p' N c')/\Own (U (Q w)) w' (.S p' N c') (mP e g x ss ns)/\Bw w w':=by
 have HR:=af λ(w':G)(hb:Bw w w')=>aD (h.H hb) (hN.H hb);have hn5:n<=51:=by have:=HS.n1;rw[aa en]at this;exact this
 have hm5:m<=201:=by have:=HS.n2;rw[aa em]at this;exact this
 have wn:jY jU (n:Int)=(n:Int):=by rw[uW];omega
 have wm:jY jU (m:Int)=(m:Int):=by rw[uW];omega
 obtain⟨M0,f0⟩:∃M,O (J (vi e)=M):=⟨_,cO⟩;have hM0:M0<=10:=by have:=(qm e).2;rw[aa f0]at this;exact this
 obtain⟨M1,f1⟩:∃M,O (J (vi g)=M):=⟨_,cO⟩;have hM1:M1<=10:=by have:=(qm g).2;rw[aa f1]at this;exact this
 obtain⟨M2,f2⟩:∃M,O (J (vi x)=M):=⟨_,cO⟩;have hM2:M2<=10:=by have:=(qm x).2;rw[aa f2]at this;exact this
 obtain⟨M3,f3⟩:∃M,O (J (vi n)=M):=⟨_,cO⟩;have hM3:M3<=10:=by have:=(qm n).2;rw[aa f3]at this;exact this
 obtain⟨M5,f5⟩:∃M,O (J (vi m)=M):=⟨_,cO⟩;have hM5:M5<=10:=by have:=(qm m).2;rw[aa f5]at this;exact this
 obtain⟨A1,xY⟩:∃l,O (l=vi e++vi g):=⟨_,cO⟩;obtain⟨A2,Jf⟩:∃l,O (l=A1++vi x):=⟨_,cO⟩;obtain⟨A3,Lh⟩:∃l,O (l=A2++vi n):=⟨_,cO⟩;let⟨W,hW⟩:=aF (jA w (dO #[.U e,.U g,.U x,.I t,.S p n c,.S q m d] 34));have BW:O (Bw w W):=hW▸aH.alloc az _;have KW:O (W.heap[U (Q w)]?=dO #[.U e,.U g,.U x,.I t,.S p n c,.S q m d] 34):=hW▸cG7;go_in
 go_wp21
 rw[<-hW];refine(Gd he f0).h ?_;rintro z9 y1⟨py1,cy1,rfl,oy1,at7⟩;have By1:=af (ah BW at7);have Ky1:=af (Z6 KW at7);have Oy1:=af (Own.h (B':=U (Q w)) oy1 BW.size);have Qy1:O (BF w #[.U e,.U g,.U x,.I t,.S p n c,.S q m d] 34 (U (Q w)) #[.U e,.U g,.U x,.I t,.S p n c,.S q m d] 34 y1 (.S py1 M0 cy1) (vi e)):=⟨Oy1,By1,Ky1,Ky1⟩;have B:=gH.nZ Qy1.2.2.1
 go_wp21
 refine(Gd hg f1).h ?_;rintro z9 y2⟨py2,cy2,rfl,oy2,dV3⟩;have Qy2:=af (Qy1.yZ dV3);have Ry2:=af oy2.rd;go_wp2_with(at_builtin;refine DX rfl rfl Qy2 xY f1 f0 rfl rfl Ry2 ae ?_);intro fe6 fu6 y3 Ly3 Qy3 en5 fw7;have B:=gH.nZ Qy3.2.2.1
 go_wp21
 refine(Gd hx f2).h ?_;rintro z9 y4⟨py4,cy4,rfl,oy4,dU9⟩;have Qy4:=af (Qy3.yZ dU9);have Ry4:=af oy4.rd;go_wp2_with(at_builtin;refine DX rfl rfl Qy4 Jf f2 en5 rfl rfl Ry4 ae ?_);intro fe5 fu5 y5 Ly5 Qy5 em9 fw6;have B:=gH.nZ Qy5.2.2.1
 go_wp21
 refine(Gd ae f3).h ?_;rintro z9 y6⟨py6,cy6,rfl,oy6,dU8⟩;have Qy6:=af (Qy5.yZ dU8);have Ry6:=af oy6.rd;go_wp2_with(at_builtin;refine DX rfl rfl Qy6 Lh f3 em9 rfl rfl Ry6 ae ?_);intro fe4 fu4 y7 Ly7 Qy7 em7 fw5;have lA3:Le A3 Ly7:=em7;have bA3:Ly7<=40:=ae;have B:=gH.nZ Qy7.2.2.1;go_wp2
 go_loopw[3,4](λov iv wr=>∃(k:Nat)(po:OA)(co L:Nat),k<=n/\ov=.S po L co/\iv=.I k/\L<=40+10*k/\O (J (A3++cat ((jT k ss).map qp))=L)/\O (Ow w wr (.S po L co) (A3++cat ((jT k ss).map qp)))/\O (wr.heap[U (Q w)]?=dO #[.U e,.U g,.U x,.I t,.S p n c,.S q m d] 34)/\O (Bw w wr)) (λ_ iv _=>n-(jN (intOf iv)))
 exact⟨0,_,_,_,cT _,rfl,rfl,ae,(by show _=_;simp only[uD,Eg,VA,De];exact aa lA3),(by show Own _ _ _ _;simp only[uD,Eg,VA,De];exact Qy7.1),Qy7.2.2.1,Qy7.2.1⟩;{
 obtain⟨k,po,co,L,hk,rfl,rfl,hLk,eL,D,i,Z⟩:=hrel;by_cases aL:k<n;{
 have cM:=bR k n;have db:k<J ss:=aa en▸aL;let⟨sk0,hy⟩:=sj db;have hi:=HS.s _ (bq hy);obtain⟨v,ev⟩:∃v:Nat,sk0.1=(v:Int):=⟨jN sk0.1,ae⟩;obtain⟨b,o,rfl,yQ⟩:∃b o,p=(Ad b o)/\I wr (Ad b (o+k*3))=dU v:=by let⟨p',c',evv,hd⟩:=(aa HR _ Z).1;obtain⟨rfl,-,-⟩:=mg evv;obtain h0|⟨b,o,h1,h2⟩:=hd;{rw[h0]at db;simp at db};{exact⟨b,o,h1,by rw[<-ev];exact(h2 k _ hy).1⟩}
 rw[ev]at hi;have eS:O (qp sk0=vi v):=by show _=_;rw[qp,ev];rfl
 obtain⟨M,eM⟩:∃M,O (J (vi v)=M):=⟨_,cO⟩;have hM:M<=10:=by have:=(qm v).2;rw[aa eM]at this;exact this
 obtain⟨A,hA⟩:∃A,O (A=A3++cat ((jT k ss).map qp)):=⟨_,cO⟩;rw[<-aa hA]at eL D;obtain⟨AA,Zw⟩:∃l,O (l=A++vi v):=⟨_,cO⟩;have EA:O (A3++cat ((jT (k+1) ss).map qp)=AA):=by show _=_;rw[aa Zw,aa hA,bt4 qp hy,aa eS,pO]
 have wk:jY jV ((k:Int)+1)=((k+1:Nat):Int):=by rw[l8 _ ae];omega
 have Qr:=af (show BF w _ _ (U (Q w)) _ _ _ _ _ from⟨D,Z,i,i⟩);have B:=gH.nZ i
 go_wp21
 refine(Gd ae eM).h ?_;rintro z9 y8⟨py8,cy8,rfl,oy8,dU7⟩;have Qy8:=af (Qr.yZ dU7);have Ry8:=af oy8.rd;go_wp2_with(at_builtin;refine DX rfl rfl Qy8 Zw eM eL rfl rfl Ry8 ae ?_);intro fe3 fu3 y9 Ly9 Qy9 em6 fw4;have B:=gH.nZ Qy9.2.2.1;go_wp2;go_roundw;exact⟨k+1,_,_,_,ae,rfl,by go_num,ae,(aa EA▸em6),(aa EA▸Qy9.1),Qy9.2.2.1,Qy9.2.1⟩;exact dh};{
 have cM:=fG k n;obtain rfl:n=k:=ae;rw[od (aa en▸fq _)]at eL D;obtain⟨A4,hA4⟩:∃A,O (A=A3++cat (ss.map qp)):=⟨_,cO⟩;rw[<-aa hA4]at eL D;obtain⟨A5,hA5⟩:∃A,O (A=A4++vi m):=⟨_,cO⟩;have Qr:=af (show BF w _ _ (U (Q w)) _ _ _ _ _ from⟨D,Z,i,i⟩);have B:=gH.nZ i
 go_wp21
 refine(Gd ae f5).h ?_;rintro z9 y10⟨fe2,ft9,rfl,dt7,dV8⟩;have eL5:=af (Qr.yZ dV8);have eH7:=af dt7.rd;go_wp2_with(at_builtin;refine DX rfl rfl eL5 hA5 f5 eL rfl rfl eH7 ae ?_);intro ff5 fv5 y11 eM6 aD5 eo6 fx6;have bA5:eM6<=600:=ae;have EN:O (mP e g x ss ns=A5++cat (ns.map kR)):=by show _=_;rw[dc9,aa hA5,aa hA4,aa Lh,aa Jf,aa xY,aa en,aa em]
 have B:=gH.nZ aD5.2.2.1;go_wp2
 go_loopw[3,5](λov iv wr=>∃(k:Nat)(po:OA)(co L:Nat),k<=m/\ov=.S po L co/\iv=.I k/\L<=600+800*k/\O (J (A5++cat ((jT k ns).map kR))=L)/\O (Ow w wr (.S po L co) (A5++cat ((jT k ns).map kR)))/\O (wr.heap[U (Q w)]?=dO #[.U e,.U g,.U x,.I t,.S p n c,.S q m d] 34)/\O (Bw w wr)) (λ_ iv _=>m-(jN (intOf iv)))
 exact⟨0,_,_,_,cT _,rfl,rfl,ae,(by show _=_;simp only[uD,Eg,VA,De];exact aa eo6),(by show Own _ _ _ _;simp only[uD,Eg,VA,De];exact aD5.1),aD5.2.2.1,aD5.2.1⟩;{
 obtain⟨k,po,co,L,hk,rfl,rfl,hLk,eL,D,i,Z⟩:=hrel;by_cases aL:k<m;{
 have cM:=bR k m;have db:k<J ns:=aa em▸aL;let⟨R,hy⟩:=sj db;have hi:=HS.d R (bq hy);have hlen:=(aQ9 HS R (bq hy)).1;obtain⟨b,o,rfl,PP,PV,PH,PU,Ew⟩:∃b o,q=(Ad b o)/\∃P V H iU,Hl w b (o+k*8) R P V H iU:=by let⟨p',c',ev,hd⟩:=(aa HR _ aH).2;obtain⟨rfl,-,-⟩:=mg ev;obtain h0|⟨b,o,h1,h2⟩:=hd;{rw[h0]at db;simp at db};{exact⟨b,o,h1,h2 k _ hy⟩}
 let⟨P,eP⟩:=aZ R.A;let⟨V,eV⟩:=aZ R.V;let⟨H,eH⟩:=aZ R.y;obtain⟨pA,cA,nA,rfl,eA⟩:=Ew.r0.fO;obtain⟨pB,cB,nB,rfl,eB⟩:=Ew.r1.fO;obtain⟨pD,cD,E,rfl,eD⟩:=Ew.r4.fO;obtain⟨pU,cU,nU,rfl,-⟩:=Ew.r7.fO;obtain⟨yQ,gL,ju,Gu,AM,xv,AL,hc7,-⟩:=Ew.H Z;obtain⟨-,-,-,-,-,-,-,-,q0,q1,q4,-,-⟩:=Ew;rw[eP]at q0;rw[eV]at q1;rw[eH]at q4;have QQ:=af λ(w':G)(hb:Bw w w')=>aD (q0.H hb) (aD (q1.H hb) (q4.H hb));obtain⟨⟨j1,j2,j3⟩,j4,j5,j6,j7,j8⟩:=hi;rw[aa eA]at j1;rw[aa eB]at j2;rw[aa eD]at j3;have J8:=af j8;obtain⟨ow,EW⟩:∃v:Nat,R.D=(v:Int):=⟨jN R.D,ae⟩;obtain⟨ep,Vt⟩:∃v:Nat,R.P=(v:Int):=⟨jN R.P,ae⟩;obtain⟨ge,Vs⟩:∃v:Nat,R.F=(v:Int):=⟨jN R.F,ae⟩;obtain⟨mo,Vq⟩:∃v:Int,R.M=v:=⟨_,rfl⟩;rw[EW]at ju j5;rw[Vt]at xv j6;rw[Vs]at AL j7;rw[Vq]at Gu j4;rw[eP]at eA;rw[eV]at eB;rw[eH]at eD J8;have EB:O (kR R=((((((tx P++tx V)++vi ow)++[mo])++vi E)++cat (H.map ke))++vi ep)++vi ge):=by show _=_;rw[dx8,EW,Vt,Vs,Vq,eP,eV,eH,ke,ke,ke,aa eD];rfl
 have HY:=af hy;have wmo:IntKind.u8.wrap mo=mo:=by rw[Ki];omega
 have wh:jY jU (E:Int)=(E:Int):=by rw[uW];omega
 have wk:jY jV ((k:Int)+1)=((k+1:Nat):Int):=by rw[l8 _ ae];omega
 obtain⟨T0,t0⟩:∃M,O (J (tx P)=M):=⟨_,cO⟩;obtain⟨T1,t1⟩:∃M,O (J (tx V)=M):=⟨_,cO⟩;have bT0:T0<=146:=by have:=(Ib P).2;rw[aa t0,aa eA]at this;omega
 have bT1:T1<=51:=by have:=(Ib V).2;rw[aa t1,aa eB]at this;omega
 obtain⟨G0,g0⟩:∃M,O (J (vi ow)=M):=⟨_,cO⟩;have hG0:G0<=10:=by have:=(qm ow).2;rw[aa g0]at this;exact this
 obtain⟨G1,g1⟩:∃M,O (J (vi E)=M):=⟨_,cO⟩;have GG:G1<=10:=by have:=(qm E).2;rw[aa g1]at this;exact this
 obtain⟨G2,g2⟩:∃M,O (J (vi ep)=M):=⟨_,cO⟩;have Lb:G2<=10:=by have:=(qm ep).2;rw[aa g2]at this;exact this
 obtain⟨G3,g3⟩:∃M,O (J (vi ge)=M):=⟨_,cO⟩;have Jb:G3<=10:=by have:=(qm ge).2;rw[aa g3]at this;exact this
 obtain⟨C,hC⟩:∃A,O (A=A5++cat ((jT k ns).map kR)):=⟨_,cO⟩;rw[<-aa hC]at eL D;obtain⟨C1,Lc⟩:∃l,O (l=C++tx P):=⟨_,cO⟩;obtain⟨C2,Je⟩:∃l,O (l=C1++tx V):=⟨_,cO⟩;obtain⟨C3,hC3⟩:∃l,O (l=C2++vi ow):=⟨_,cO⟩;obtain⟨C4,hC4⟩:∃l,O (l=C3++[mo]):=⟨_,cO⟩;obtain⟨C5,hC5⟩:∃l,O (l=C4++vi E):=⟨_,cO⟩;obtain⟨C6,hC6⟩:∃l,O (l=C5++cat (H.map ke)):=⟨_,cO⟩;obtain⟨C7,hC7⟩:∃l,O (l=C6++vi ep):=⟨_,cO⟩;obtain⟨C8,hC8⟩:∃l,O (l=C7++vi ge):=⟨_,cO⟩;have EC:O (A5++cat ((jT (k+1) ns).map kR)=C8):=by show _=_;rw[bt4 kR (aa HY),aa EB,aa hC8,aa hC7,aa hC6,aa hC5,aa hC4,aa hC3,aa Je,aa Lc,aa hC];simp only[pO]
 have Qr:=af (show BF w _ _ (U (Q w)) _ _ _ _ _ from⟨D,Z,i,i⟩);have B:=gH.nZ i
 go_wp21
 let⟨X,hX⟩:=aF (jA wr (dO #[.S pA nA cA,.S pB nB cB,.U ow,.I mo,.S pD E cD,.U ep,.U ge,.S pU nU cU] 69));have tZ:=ij hX;let⟨nb,Cf⟩:=aF (U (Q wr));have NX:O (X.heap[nb]?=dO #[.S pA nA cA,.S pB nB cB,.U ow,.I mo,.S pD E cD,.U ep,.U ge,.S pU nU cU] 69):=by rw[hX,Cf];exact cG7
 have OX:=af (Own.H D tZ);have BX:=af (ah Z tZ);have KX:=af (Z6 i tZ);rw[<-hX,<-Cf];clear hX tZ D Z i Cf;have QX:=af (show BF w _ _ nb _ _ _ _ _ from⟨OX,BX,KX,NX⟩);refine(ao9 eA (aa QQ _ BX).1 ae t0).h ?_;rintro z9 y12⟨fe1,ft8,rfl,dt6,dV7⟩;have eL4:=af (QX.yZ dV7);have eH6:=af dt6.rd;go_wp2_with(at_builtin;refine DX rfl rfl eL4 Lc t0 eL rfl rfl eH6 ae ?_);intro ff4 fv4 y13 fB3 aD4 eo5 fx5;have B:=gH.nZ aD4.2.2.1;have a0:=wV.nZ aD4.2.2.2
 go_wp21
 refine(ao9 eB (aa QQ _ aD4.2.1).2.1 ae t1).h ?_;rintro z9 y14⟨fe0,ft7,rfl,dt5,dV6⟩;have eL3:=af (aD4.yZ dV6);have eH5:=af dt5.rd;go_wp2_with(at_builtin;refine DX rfl rfl eL3 Je t1 eo5 rfl rfl eH5 ae ?_);intro ff3 fv3 y15 fB2 bz3 eo4 fx4;have B:=gH.nZ bz3.2.2.1;have a0:=wV.nZ bz3.2.2.2
 go_wp21
 refine(Gd ae g0).h ?_;rintro z9 y16⟨fd9,ft6,rfl,dt4,dV5⟩;have eK9:=af (bz3.yZ dV5);have eH4:=af dt4.rd;go_wp2_with(at_builtin;refine DX rfl rfl eK9 hC3 g0 eo4 rfl rfl eH4 ae ?_);intro ff2 fv2 y17 fB1 bz2 eo3 fx3;have B:=gH.nZ bz2.2.2.1;have a0:=wV.nZ bz2.2.2.2;go_wp2_with(at_builtin;refine cW9 rfl rfl bz2 hC4 eo3 rfl rfl ae ?_);intro ff1 fv1 y18 fA9 bz1 eo2 fx2;have B:=gH.nZ bz1.2.2.1;have a0:=wV.nZ bz1.2.2.2
 go_wp21
 refine(Gd ae g1).h ?_;rintro z9 y19⟨fd8,ft5,rfl,dt3,dV4⟩;have eK8:=af (bz1.yZ dV4);have eH3:=af dt3.rd;go_wp2_with(at_builtin;refine DX rfl rfl eK8 hC5 g1 eo2 rfl rfl eH3 ae ?_);intro ff0 fv0 y20 eM5 VT eo1 fx1;have B:=gH.nZ VT.2.2.1;have a0:=wV.nZ VT.2.2.2;go_wp2
 go_loopw[3,7](λov kv wr=>∃(j:Nat)(po:OA)(co L:Nat),j<=E/\ov=.S po L co/\kv=.I j/\L<=eM5+10*j/\O (J (C5++cat ((jT j H).map ke))=L)/\O (Ow w wr (.S po L co) (C5++cat ((jT j H).map ke)))/\O (wr.heap[U (Q w)]?=dO #[.U e,.U g,.U x,.I t,.S p n c,.S (Ad b o) m d] 34)/\O (wr.heap[nb]?=dO #[.S pA nA cA,.S pB nB cB,.U ow,.I mo,.S pD E cD,.U ep,.U ge,.S pU nU cU] 69)/\O (Bw w wr)) (λ_ kv _=>E-(jN (intOf kv)))
 exact⟨0,_,_,_,cT _,rfl,rfl,ae,(by show _=_;simp only[uD,Eg,VA,De];exact aa eo1),(by show Own _ _ _ _;simp only[uD,Eg,VA,De];exact VT.1),VT.2.2.1,VT.2.2.2,VT.2.1⟩;{
 obtain⟨j,pr,cr,Lr,hj,rfl,rfl,hLj,ZM,D,i,Nr,Z⟩:=hrel;by_cases hlj:j<E;{
 have dP6:=bR j E;have qM:j<J H:=aa eD▸hlj;let⟨iv,hy⟩:=sj qM;have hi:=aa J8 iv (bq hy);obtain⟨v,rfl⟩:∃v:Nat,iv=(v:Int):=⟨jN iv,ae⟩;obtain⟨b',o',rfl,hc⟩:∃b o,pD=(Ad b o)/\I wr (Ad b (o+j))=dU v:=by let⟨p',c',ev,hd⟩:=(aa QQ _ Z).2.2;obtain⟨rfl,-,-⟩:=mg ev;obtain h0|⟨b,o,h1,h2⟩:=hd;{rw[h0]at qM;simp at qM};{refine⟨b,o,h1,?_⟩;have:=h2 j qM;rw[iR,hy,ta]at this;exact this}
 obtain⟨M,eM⟩:∃M,O (J (vi v)=M):=⟨_,cO⟩;have hM:M<=10:=by have:=(qm v).2;rw[aa eM]at this;exact this
 obtain⟨A,hA⟩:∃A,O (A=C5++cat ((jT j H).map ke)):=⟨_,cO⟩;rw[<-aa hA]at ZM D;obtain⟨AA,Zw⟩:∃l,O (l=A++vi v):=⟨_,cO⟩;have EA:O (C5++cat ((jT (j+1) H).map ke)=AA):=by show _=_;rw[aa Zw,aa hA,bt4 ke hy,pO];rfl
 have wj:jY jV ((j:Int)+1)=((j+1:Nat):Int):=by rw[l8 _ ae];omega
 have Qr:=af (show BF w _ _ nb _ _ _ _ _ from⟨D,Z,i,Nr⟩);have B:=gH.nZ i;have a0:=wV.nZ Nr
 go_wp21
 refine(Gd ae eM).h ?_;rintro z9 y21⟨fd6,ft3,rfl,dt1,dV2⟩;have eK6:=af (Qr.yZ dV2);have eH1:=af dt1.rd;go_wp2_with(at_builtin;refine DX rfl rfl eK6 Zw eM ZM rfl rfl eH1 ae ?_);intro fe9 fu9 y22 fA8 VS eo0 fx0;have B:=gH.nZ VS.2.2.1;have a0:=wV.nZ VS.2.2.2;go_wp2;go_roundw;exact⟨j+1,_,_,_,ae,rfl,by go_num,ae,(aa EA▸eo0),(aa EA▸VS.1),VS.2.2.1,VS.2.2.2,VS.2.1⟩;exact dh};{
 have dP6:=fG j E;have ejn:E=j:=ae;rw[od (by rw[aa eD];omega)]at ZM D;rw[<-aa hC6]at ZM D;have Qr:=af (show BF w _ _ nb _ _ _ _ _ from⟨D,Z,i,Nr⟩);have B:=gH.nZ i;have a0:=wV.nZ Nr
 go_wp21
 refine(Gd ae g2).h ?_;rintro z9 y23⟨fd5,ft2,rfl,dt0,dV1⟩;have eK5:=af (Qr.yZ dV1);have eG9:=af dt0.rd;go_wp2_with(at_builtin;refine DX rfl rfl eK5 hC7 g2 ZM rfl rfl eG9 ae ?_);intro fe8 fu8 y24 fA7 bz0 en9 fw9;have B:=gH.nZ bz0.2.2.1;have a0:=wV.nZ bz0.2.2.2
 go_wp21
 refine(Gd ae g3).h ?_;rintro z9 y25⟨fd4,ft1,rfl,ds9,dV0⟩;have eK4:=af (bz0.yZ dV0);have eG8:=af ds9.rd;go_wp2_with(at_builtin;refine DX rfl rfl eK4 hC8 g3 en9 rfl rfl eG8 ae ?_);intro fe7 fu7 y26 fA6 ab1 en6 fw8;have B:=gH.nZ ab1.2.2.1;have a0:=wV.nZ ab1.2.2.2;go_wp2;go_roundw;exact⟨k+1,_,_,_,ae,rfl,by go_num,ae,(aa EC▸en6),(aa EC▸ab1.1),ab1.2.2.1,ab1.2.1⟩
 case measure=>simp[intOf];omega}}}
 {have cM:=fG k m;obtain rfl:m=k:=ae;rw[od (aa em▸fq _),<-aa EN]at eL D;obtain rfl:L=N:=eL.C.Z eN;have Qr:=af (show BF w _ _ (U (Q w)) _ _ _ _ _ from⟨D,Z,i,i⟩);have B:=gH.nZ i;go_wp2;go_ret;exact⟨po,co,rfl,D,Z⟩}}}}
def GW:Option ((Int×Int×Int)×List aC×List au)->fu
 |none=>mO
 |some r=>⟨r.1.1,r.1.2.1,r.1.2.2,0,r.2.1,r.2.2⟩
def GX:Option ((Int×Int×Int)×List aC×List au)->Int
 |none=>13
 |some _=>0
variable {a x:Int}
theorem FE(o:Le l n){w:G}(h:Rd w (.S p n c) l)(m:O (aA l))(hl:Mg n)(j:O (ik n l om))(q:O (kq n om=a))(e:O (oV om=(x,qG)))(u:O (kq n qG=a')):Cp 67 #[.S p n c,.I a] w λe i=>e=dR (dT #[.U x,.I a'])/\i=w:=by
 have s:=aa q;have r:=aa u;subst s r;exact bS6 o h m hl j e
theorem dw0(o:Le l n){w:G}(h:Rd w (.S p n c) l)(m:O (aA l))(hl:Mg n)(j:O (ik n l om))(q:O (kq n om=a))(e:O (oB om=(x,qG)))(u:O (kq n qG=a')):Cp 69 #[.S p n c,.I a] w λe i=>e=dR (dT #[.I x,.I a'])/\i=w:=by
 have s:=aa q;have r:=aa u;subst s r;exact aO3 o h m hl j e
theorem bW5(s:Le l n){w:G}(h:Rd w (.S p n c) l)(r:O (aA l))(hl:Mg n)(o:n<=c)(q:O (ik n l om))(u:O (kq n om=a)){x:LI}(e:O (oT om=(x,qG)))(E:O (kq n qG=a'))(y:Le x N):Cp 68 #[.S p n c,.I a] w λe i=>∃j m,e=dR (dT #[.S j N m,.I a'])/\Own (U (Q w)) i (.S j N m) x/\Bw w i:=by
 have D:=aa u;have B:=aa E;subst D B;exact aO2 s h r hl o q e y
theorem aB8(i:ik n l om):(kq n om<0↔om=dN)/\kq n om<=n/\-1<=kq n om:=by
 cases om with
 |none=>simp[kq]
 |some m=>
  have:=(i m rfl).1;simp only[kq];refine⟨⟨λh=>ae,λh=>by cases h⟩,ae,ae⟩
theorem aB5{w u:G}(h:Bw w u){o:Obj}:Bw w (jA u o):=h.alloc h.size o
theorem OwnT.bU1{α:Type}{i:G->α->List dV->List Lf->Prop}{sb:Nat}{w:G}{xs:List α}(h:OwnT i ty sz B w v xs Ls)(r:∀w m x c l,i w x c l->(∀a∈l,m.heap[a.b]?=w.heap[a.b]?)->i m x c l)(s:sb<B)(j:Nat)(u:dV):OwnT i ty sz B (jS w (Ad sb j) u) v xs Ls:=
 h.W (r _ _) ai (λb o=>fN _ _ _ _ (by have:=(h.lt.1 b o).1;simp;omega)) (λa q=>fN _ _ _ _ (by have:=(h.lt.2 a q).1;simp;omega))
theorem qe.id(w:G)(i:Int):qe w (yI i) [.U i,.I 0,aq] []:=⟨dN,0,rfl,⟨dN,0,rfl,.L rfl⟩,⟨dN,0,[],rfl,rfl,rfl,.L rfl⟩⟩
variable {o:Option LI}
theorem bO1(h:rB k o=dN):∀j,k<=j->rB j o=dN:=by
 intro j i
 induction j with
 |zero=>rw[show k=0 by omega]at h;exact h
 |succ j ih=>
  by_cases e:k=j+1;{rw[<-e];exact h};{rw[rB,ih ae];rfl}
theorem de9(h:rB k o=Y (ns,om))(i:Ac om=Y (nd,qG)):rB (k+1) o=Y (ns++[nd],qG):=by
 rw[rB,h];simp only[Am,i,Iv]
theorem bN9(h:rB k o=Y (ns,om))(i:Ac om=dN):rB (k+1) o=dN:=by
 rw[rB,h];simp only[Am,i,Option.map_none]
theorem nW.snoc{w:G}(i:J l=k)(h:w.ownsRow B 24 1 v (k+1) (l.map (Value.int jU)++[.U d])):nW B w v (l++[d]):=by
 unfold nW;rw[eG,rI,i];exact h
theorem PU.nil(w:G)(M N:Nat):PU w M N aq [] []:=⟨⟨dN,0,rfl,.L rfl⟩,⟨dN,0,[],rfl,rfl,rfl,.L rfl⟩,je.nil _ _,λa ha=>by simp at ha⟩
end Go.Proofs.YtpkakgkipopiaaaGreatDoor
