import Derived.Test.YtjjnidignljppaaGreatDoorK29
namespace Go.Proofs.YtjjnidignljppaaGreatDoor
set_option maxHeartbeats 25600000
set_option linter.all false
set_option maxRecDepth 100000
open Go.ChangeShapes Go.WideShapes Go.ChangeAt Go.RowKit
variable {A:List Lf}{B L L' M N R b b2 c e g k sz x:Nat}{Hf o o' om:Option LI}{Ls:List (List Lf)}{V3 u w0:World}{a:Act}{a' i t y:Int}{c1 c2:Array Value}{l lm m m' xs:LI}{nd:aB}{ns:List aB}{ops:Array Oper}{p:OA}{s:Operand}{sh sh':Bool}{ss:List aR}{t1 t2 ty:TypeId}{v v0 v1 v2 v3 v4 v5:Value}{vs:List Value}
def rL{α σ:Type}(f:σ->α×σ):Nat->σ->List α×σ
 |0,o=>([],o)
 |k+1,o=>((rL f k o).1++[(f (rL f k o).2).1],(f (rL f k o).2).2)
theorem ap0{α σ:Type}(f:σ->α×σ)(k:Nat)(o:σ):rL f (k+1) o=((f o).1::(rL f k (f o).2).1,(rL f k (f o).2).2):=by
 induction k with
 |zero=>rfl
 |succ k ih=>rw[rL,ih];rfl
theorem sc{α σ:Type}(f:σ->α×σ)(k:Nat)(o:σ):(rL f k o).1.length=k:=by
 induction k with
 |zero=>rfl
 |succ k ih=>rw[rL,ig,ih];rfl
theorem Kd{α:Type}(f:Option LI->α×Option LI)(g:α->LI):∀(xs:List α)(rest:LI),(∀x∈xs,∀r,f (some (g x++r))=(x,some r))->rL f xs.length (some (cat (xs.map g)++rest))=(xs,some rest)
 |[],rest,_=>rfl
 |x::xs,rest,h=>by rw[iU,ap0,iH,cat,ti,tj,h x ai];have:=Kd f g xs rest fun y hy=>h y (by simp[hy]);rw[cat]at this;simp only[this]
def oc(o:Option LI):Option (aB×Option LI):=
 let a:=oT o
 let b:=oT a.2
 let c:=oV b.2
 let d:=oB c.2
 let h:=oV d.2
 if h.2=none\/50<h.1 then none
 else
  let l:=rL oV h.1.toNat h.2
  let e:=oV l.2
  let g:=oV e.2
  some (⟨a.1,b.1,c.1,d.1,l.1,e.1,g.1,[]⟩,g.2)
def fI:Nat->Option LI->Option (List aB×Option LI)
 |0,o=>some ([],o)
 |k+1,o=>(fI k o).bind fun r=>(oc r.2).map fun q=>(r.1++[q.1],q.2)
theorem MU(k:Nat)(o:Option LI):fI (k+1) o=(oc o).bind fun q=>(fI k q.2).map fun r=>(q.1::r.1,r.2):=by
 induction k with
 |zero=>
  simp only[fI,yi,Kv];cases oc o<;>rfl
 | succ k ih=>
  rw[fI,ih];cases oc o with
  |none=>rfl
  | some q=>
   simp only[yi];rw[fI];cases fI k q.2 with
   |none=>rfl
   |some r=>
    simp only[Cy,yi];cases oc r.2<;>rfl
def Qc(i:Int):aR:=(i,0,[])
def xM(l:LI):Option ((Int×Int×Int)×List aR×List aB×Option LI):=
 let a:=oV (some l)
 let b:=oV a.2
 let c:=oV b.2
 let d:=oV c.2
 if d.2=none\/50<d.1 then none
 else
  let s:=rL oV d.1.toNat d.2
  let m:=oV s.2
  if m.2=none\/200<m.1 then none
  else(fI m.1.toNat m.2).map fun r=>((a.1,b.1,c.1),s.1.map Qc,r.1,r.2)
def dJ(l:LI):Option ((Int×Int×Int)×List aR×List aB):=
 (xM l).bind fun r=>if r.2.2.2≠none/\mw r.1.1 r.1.2.1 r.1.2.2 0 r.2.1 r.2.2.1=true/\De r.1.1.toNat r.1.2.1.toNat r.1.2.2.toNat r.2.1 r.2.2.1=l then some (r.1,r.2.1,r.2.2.1)else none
def Ep{s:Nat}{r:LI}(h:s<18446744073709551616):oV (some (vi s++r))=((s:Int),some r):=by
 rw[oV,TF r h]
def aC2(P:LI){r:LI}(h:P.length<18446744073709551616):oT (some (tx P++r))=(P,some r):=by
 rw[oT,Yj r h]
def Eo(h:0<=i/\i<18446744073709551616)(r:LI):oV (some (mj i++r))=(i,some r):=by
 rw[mj,Ep ae,Bp h.1]
def QU(h:UZ ss ns)(br:nd∈ns)(hw:nd.watchers=[])(r:LI):oc (some (nM nd++r))=some (nd,some r):=by
 obtain⟨⟨h1,h2,h3⟩,h4,h5,h6,h7,h8⟩:=h.d nd br;have e:nM nd++r=tx nd.path++(tx nd.value++(mj nd.owner++([nd.mode]++(vi nd.holders.length++(cat (nd.holders.map mj)++(mj nd.aJ++(mj nd.gen++r))))))):=by rw[nM,W6,qJ];simp[cat,mj]
 rw[e,oc];simp only[aC2 nd.path ae,aC2 nd.value ae,Eo h5,Kw,Kv,oB];rw[Ep (s:=nd.holders.length) ae];simp only[uk];rw[bH bj,Kd oV mj nd.holders _ fun i hi r=>Eo (h8 i hi) r];simp only[Eo h6,Eo h7,jU,fO,and_true];rw[<-hw]
theorem Bj(h:UZ ss ns):∀(xs:List aB)(r:LI),(∀x∈xs,x∈ns/\x.watchers=[])->fI xs.length (some (cat (xs.map nM)++r))=some (xs,some r)
 |[],r,_=>rfl
 |x::xs,r,hx=>by rw[iU,MU,iH,cat,ti,tj,QU h (hx x ai).1 (hx x ai).2];have:=Bj h xs r fun y hy=>hx y (by simp[hy]);rw[cat]at this;simp only[yi,this,Cy]
def Tv(e g x:Nat)(ss:List aR)(ns:List aB):De e g x ss ns=vi e++(vi g++(vi x++(vi ss.length++(cat (ss.map tY)++(vi ns.length++(cat (ns.map nM)++[])))))):=by
 rw[De,qJ,qJ];simp[cat]
def ao5:ss.map tY=(ss.map (·.1)).map mj:=by
 rw[uj]
 rfl
def ZG(h:∀s∈ss,s.2=(0,[])):(ss.map (·.1)).map Qc=ss:=by
 rw[uj]
 conv=>rhs;rw[<-Uc ss]
 refine yz fun s hs=>?_;obtain⟨a,b⟩:=s;have:=h _ hs;simp only at this;simp[Qc,this]
def Vn(he:e<18446744073709551616)(hg:g<18446744073709551616)(hx:x<18446744073709551616)(h:UZ ss ns)(h1:∀s∈ss,s.2=(0,[]))(h2:∀nd∈ns,nd.watchers=[]):xM (De e g x ss ns)=some (((e:Int),(g:Int),(x:Int)),ss,ns,some []):=by
 have n1:=h.n1;have n2:=h.n2;rw[Tv,xM];simp only[Ep he,Ep hg,Ep hx,Ep (show ss.length<18446744073709551616 by omega),uk];have hr:rL oV ss.length (some (cat (ss.map tY)++(vi ns.length++(cat (ns.map nM)++[]))))=(ss.map (·.1),some (vi ns.length++(cat (ns.map nM)++[]))):=by
  have:=Kd oV mj (ss.map (·.1)) (vi ns.length++(cat (ns.map nM)++[])) fun i hi r=>by obtain⟨s,hs,rfl⟩:=iJ.1 hi;exact Eo (h.s s hs) r
  rw[fe]at this;rw[ao5,this]
 rw[bH bj,hr];simp only[Ep (show ns.length<18446744073709551616 by omega),uk];rw[bH bj,Bj h ns [] fun y hy=>⟨hy,h2 y hy⟩,ZG h1]
 rfl
abbrev Rs:Type:=LI×Bool
def jk(s:Rs):Int×Rs:=sN 10 0 0 s.1 s.2
def vh{α:Type}(f:Rs->α×Rs):Nat->List α->Rs->List α×Rs
 |0,acc,s=>(acc,s)
 |k+1,acc,s=>if(f s).2.2=true then([],(f s).2)else vh f k (acc++[(f s).1]) (f s).2
def lF{α:Type}(f:Rs->α×Rs)(s:Rs):List α×Rs:=vh f (jk s).1.toNat [] (jk s).2
def TD(s:Rs):aR×Rs:=(Qc (jk s).1,(jk s).2)
def JV(s:Rs):aB×Rs:=
 let a:=sT s.1 s.2
 let b:=sT a.2.1 a.2.2
 let c:=jk b.2
 let d:=sB c.2.1 c.2.2
 let h:=lF jk d.2
 let e:=jk h.2
 let g:=jk e.2
 (⟨a.1,b.1,c.1,d.1,h.1,e.1,g.1,[]⟩,g.2)
def pL(l:LI):(Int×Int×Int)×List aR×List aB×Rs:=
 let a:=jk (l,false)
 let b:=jk a.2
 let c:=jk b.2
 let s:=lF TD c.2
 let n:=lF JV s.2
 ((a.1,b.1,c.1),s.1,n.1,n.2)
def jP(l:LI):Option ((Int×Int×Int)×List aR×List aB):=
 let r:=pL l
 if r.2.2.2.2=false/\Ij r.1.1 r.1.2.1 r.1.2.2 0 r.2.1 r.2.2.1=l then some (r.1,r.2.1,r.2.2.1)else none
def Eb{s:Nat}{r:LI}(h:s<18446744073709551616):jk (vi s++r,false)=((s:Int),r,false):=Yf (rest:=r) (sh:=false) h
def xS(h:0<=i/\i<18446744073709551616)(r:LI):jk (mj i++r,false)=(i,r,false):=by
 rw[mj,Eb ae,Bp h.1]
theorem Og{α:Type}(f:Rs->α×Rs)(g:α->LI):∀(xs acc:List α)(rest:LI),(∀x∈xs,∀r,f (g x++r,false)=(x,r,false))->vh f xs.length acc (cat (xs.map g)++rest,false)=(acc++xs,rest,false)
 |[],acc,rest,_=>by simp[vh,cat]
 |x::xs,acc,rest,h=>by rw[iU,vh,iH,cat,ti,tj,h x ai];have:=Og f g xs (acc++[x]) rest fun y hy=>h y (by simp[hy]);rw[cat]at this;rw[bH ai];simp only[this,tj,Kw,Kv]
def KH{α:Type}(f:Rs->α×Rs)(g:α->LI)(xs:List α){rest:LI}(hl:xs.length<18446744073709551616)(h:∀x∈xs,∀r,f (g x++r,false)=(x,r,false)):lF f (vi xs.length++(cat (xs.map g)++rest),false)=(xs,rest,false):=by
 rw[lF,Eb hl];simp only[uk];rw[Og f g xs [] rest h]
 rfl
def Yd(h:UZ ss ns)(br:nd∈ns)(hw:nd.watchers=[]){r:LI}:JV (nM nd++r,false)=(nd,r,false):=by
 obtain⟨⟨h1,h2,h3⟩,h4,h5,h6,h7,h8⟩:=h.d nd br;have e:nM nd++r=tx nd.path++(tx nd.value++(mj nd.owner++(nd.mode::(vi nd.holders.length++(cat (nd.holders.map mj)++(mj nd.aJ++(mj nd.gen++r))))))):=by rw[nM,W6,qJ];simp[cat,mj]
 rw[e,JV];simp only[TC nd.path (sh:=false) ae,TC nd.value (sh:=false) ae,xS h5,sB];rw[KH jk mj nd.holders ae fun i hi r=>xS (h8 i hi) r];simp only[xS h6,xS h7,fO,and_true];rw[<-hw]
def VQ(he:e<18446744073709551616)(hg:g<18446744073709551616)(hx:x<18446744073709551616)(h:UZ ss ns)(h1:∀s∈ss,s.2=(0,[]))(h2:∀nd∈ns,nd.watchers=[]):pL (De e g x ss ns)=(((e:Int),(g:Int),(x:Int)),ss,ns,[],false):=by
 have n1:=h.n1;have n2:=h.n2;rw[Tv,pL];simp only[Eb he,Eb hg,Eb hx];rw[KH TD tY ss ae fun s hs r=>by have:=xS (h.s s hs) r;obtain⟨a,b⟩:=s;have hb:=h1 _ hs;simp only at hb;rw[TD,tY,<-mj,this];simp[Qc,hb]]
 simp only;rw[KH JV nM ns ae fun y hy r=>Yd h hy (h2 y hy) (r:=r)]
def lY{s:Rs}(h:s.2=true):(jk s).2.2=true:=JW 10 0 0 s.1 s.2 h
theorem Zs{α:Type}(f:Rs->α×Rs)(hf:∀s:Rs,s.2=true->(f s).2.2=true):∀(k:Nat)(acc:List α)(s:Rs),s.2=true->(vh f k acc s).2.2=true
 |0,_,_,h=>h
 |k+1,acc,s,h=>by rw[vh,bN (hf s h)];exact hf s h
def KI{α:Type}(f:Rs->α×Rs)(hf:∀s:Rs,s.2=true->(f s).2.2=true){s:Rs}(h:s.2=true):(lF f s).2.2=true:=Zs f hf _ _ _ (lY h)
def Ye(s:Rs)(h:s.2=true):(JV s).2.2=true:=
 lY (lY (KI jk (fun _=>lY) (Di (lY (Dg (Dg h))))))
def ZE:(pL []).2.2.2.2=true:=by
 have h0:(jk (([],false):Rs)).2.2=true:=by unfold jk;show(sN 10 0 0 [] false).2.2=true;rw[sN];simp[sB]
 exact KI JV Ye (KI TD (fun _=>lY) (lY (lY h0)))
def U64(i:Int):Prop:=0<=i/\i<18446744073709551616
structure RgN(nd:aB):Prop where
 by0:aM nd.path
 by1:aM nd.value
 l0:nd.path.length<=1048576
 l1:nd.value.length<=1048576
 l4:nd.holders.length<=1048576
 l7:nd.watchers=[]
 ow:U64 nd.owner
 ep:U64 nd.aJ
 ge:U64 nd.gen
 ho:∀i∈nd.holders,U64 i
 mo:0<=nd.mode/\nd.mode<256
def iS:U64 (oV om).1:=Er
theorem Ra{α σ:Type}(f:σ->α×σ)(P:α->Prop)(I:σ->Prop)(hf:∀s,I s->P (f s).1/\I (f s).2)(k:Nat)(o:σ)(ho:I o):(∀x∈(rL f k o).1,P x)/\I (rL f k o).2:=by
 induction k with
 |zero=>exact⟨fun x hx=>by simp[rL]at hx,ho⟩
 |succ k ih=>
  rw[rL];obtain⟨h1,h2⟩:=hf _ ih.2;refine⟨fun x hx=>?_,h2⟩;rcases gR.1 hx with hx|hx;{exact ih.1 x hx};{rw[yx]at hx;rw[hx];exact h1}
def XU{n:Nat}(en:l.length=n)(hb:aM l)(hl:n<=1048576)(hs:jM n l o)(h:oc o=some (nd,o')):RgN nd/\jM n l o'/\nd.holders.length<=50:=by
 rw[oc]at h;have s1:=Es en hs;have s2:=Es en s1;have s3:=gQ en s2;have s4:=Ao en s3;have s5:=gQ en s4;have t0:=qF hb hs;have t1:=qF hb s1;have m0:=YD hb s3;simp only at h;split at h;{cases h};{
 next hc=>
 simp only[jU,fO]at h;obtain⟨rfl,rfl⟩:=h;obtain⟨r1,r2⟩:=Ra oV U64 (jM n l) (fun s hs=>⟨iS,gQ en hs⟩) (oV (oB (oV (oT (oT o).2).2).2).2).1.toNat _ s5;have hlen:=sc oV (oV (oB (oV (oT (oT o).2).2).2).2).1.toNat (oV (oB (oV (oT (oT o).2).2).2).2).2;have h50:(rL oV (oV (oB (oV (oT (oT o).2).2).2).2).1.toNat (oV (oB (oV (oT (oT o).2).2).2).2).2).1.length<=50:=by rw[hlen];simp only[Ey,Int.not_lt]at hc;omega
 exact⟨⟨t0.1,t1.1,by have:=t0.2;simp only;omega,by have:=t1.2;simp only;omega,by simp only;omega,rfl,iS,iS,iS,r1,m0⟩,gQ en (gQ en r2),h50⟩}
theorem uP{n:Nat}(en:l.length=n)(hb:aM l)(hl:n<=1048576)(k:Nat)(hs:jM n l o)(h:fI k o=some (ns,o')):(∀nd∈ns,RgN nd)/\jM n l o'/\ns.length=k:=by
 induction k generalizing ns o' with
 |zero=>
  simp only[fI,jU,fO]at h;obtain⟨rfl,rfl⟩:=h;exact⟨fun nd br=>(by simp at br),hs,rfl⟩
 | succ k ih=>
  rw[fI]at h;cases h1:fI k o with
  |none=>rw[h1]at h;cases h
  | some r=>
   obtain⟨r1,r2⟩:=r;rw[h1]at h;obtain⟨g1,g2,g3⟩:=ih h1;simp only[yi]at h;cases h2:oc r2 with
   |none=>rw[h2]at h;cases h
   |some q=>
    obtain⟨q1,q2⟩:=q;rw[h2]at h;simp only[Cy,jU,fO]at h;obtain⟨rfl,rfl⟩:=h;obtain⟨e1,e2,-⟩:=XU en hb hl g2 h2;refine⟨fun nd br=>?_,e2,by rw[ig,g3];rfl⟩;rcases gR.1 br with br|br;{exact g1 nd br};{rw[yx]at br;rw[br];exact e1}
def Okf{α:Type}(f:Rs->α×Rs)(P:α->Prop):Prop:=∀s:Rs,aM s.1->s.1.length<=1048576->P (f s).1/\aM (f s).2.1/\(f s).2.1.length<=s.1.length/\((f s).2.2=false->(f s).2.1.length<s.1.length)
theorem ir:Okf jk U64:=fun s hb hl=>by
 obtain⟨h1,h2,h3,h4⟩:=Ec 10 0 0 s.1 s.2 hb ae;refine⟨⟨h3,h4⟩,h1,h2,fun hs=>?_⟩;obtain⟨m,sh⟩:=s;cases m with
 |nil=>
  have:(jk (([],sh):Rs)).2.2=true:=by unfold jk;show(sN 10 0 0 [] sh).2.2=true;rw[sN];simp[sB]
  rw[this]at hs;cases hs
 |cons c t=>
  show(sN 10 0 0 (c::t) sh).2.1.length<_;rw[sN];split;{simp[sB]};{have:=(Ec 9 (0+1) (tA 0 0 c) t sh (fun z hz=>hb z (by simp[hz])) (sO)).2.1;simp only[sB,iU];omega}
theorem Zr{α:Type}{f:Rs->α×Rs}{P:α->Prop}(hf:Okf f P):∀(k:Nat)(acc:List α)(s:Rs),aM s.1->s.1.length<=1048576->(∀x∈acc,P x)->(∀x∈(vh f k acc s).1,P x)/\aM (vh f k acc s).2.1/\(vh f k acc s).2.1.length<=s.1.length/\(vh f k acc s).1.length<=acc.length+s.1.length
 |0,acc,s,hb,hl,ha=>⟨ha,hb,jS _,Nat.le_add_right _ _⟩
 |k+1,acc,s,hb,hl,ha=>by
  obtain⟨h1,h2,h3,h4⟩:=hf s hb hl;rw[vh];split;{exact⟨fun x hx=>(by simp at hx),h2,h3,gq _⟩};{
 next hs=>
 have tv:(f s).2.2=false:=by simpa using hs
 have h5:=h4 tv;obtain⟨g1,g2,g3,g4⟩:=Zr hf k (acc++[(f s).1]) (f s).2 h2 ae fun x hx=>by rcases gR.1 hx with hx|hx;{exact ha x hx};{rw[yx]at hx;rw[hx];exact h1}
 refine⟨g1,g2,ae,?_⟩;rw[ig]at g4;simp only[iU,yr]at g4;omega}
def Jk{α:Type}{f:Rs->α×Rs}{P:α->Prop}(hf:Okf f P){s:Rs}(hb:aM s.1)(hl:s.1.length<=1048576):(∀x∈(lF f s).1,P x)/\aM (lF f s).2.1/\(lF f s).2.1.length<=s.1.length/\(lF f s).1.length<=s.1.length:=by
 obtain⟨h1,h2,h3,h4⟩:=ir s hb hl;obtain⟨g1,g2,g3,g4⟩:=Zr hf (jk s).1.toNat [] (jk s).2 h2 ae fun x hx=>(by simp at hx);simp only[yr]at g4;exact⟨g1,g2,fW g3 h3,by unfold lF;omega⟩
def ct3(s:aR):Prop:=U64 s.1/\s.2=(0,[])
def Q5:Okf TD ct3:=fun s hb hl=>by
 obtain⟨h1,h2,h3,h4⟩:=ir s hb hl;exact⟨⟨h1,rfl⟩,h2,h3,h4⟩
def Q6:Okf JV RgN:=fun s hb hl=>by
 obtain⟨a1,a2,a3,a4⟩:=Aj (sh:=s.2) hb;obtain⟨b1,b2,b3,b4⟩:=Aj (sh:=(sT s.1 s.2).2.2) a2;obtain⟨c1,c2,c3,c4⟩:=ir (sT (sT s.1 s.2).2.1 (sT s.1 s.2).2.2).2 b2 ae;obtain⟨d1,d2,d3,d4⟩:=Al (sh:=(jk (sT (sT s.1 s.2).2.1 (sT s.1 s.2).2.2).2).2.2) c2;obtain⟨e1,e2,e3,e4⟩:=Jk ir d1 ae;obtain⟨f1,f2,f3,f4⟩:=ir (lF jk (sB (jk (sT (sT s.1 s.2).2.1 (sT s.1 s.2).2.2).2).2.1 (jk (sT (sT s.1 s.2).2.1 (sT s.1 s.2).2.2).2).2.2).2).2 e2 ae;obtain⟨g1,g2,g3,g4⟩:=ir (jk (lF jk (sB (jk (sT (sT s.1 s.2).2.1 (sT s.1 s.2).2.2).2).2.1 (jk (sT (sT s.1 s.2).2.1 (sT s.1 s.2).2.2).2).2.2).2).2).2 f2 ae;refine⟨⟨a1,b1,by show _<=_;simp only[JV];omega,by show _<=_;simp only[JV];omega,by show _<=_;simp only[JV];omega,rfl,c1,f1,g1,e1,⟨d2,d3⟩⟩,g2,?_,fun hs=>?_⟩;{show(jk (jk (lF jk (sB (jk (sT (sT s.1 s.2).2.1 (sT s.1 s.2).2.2).2).2.1 (jk (sT (sT s.1 s.2).2.1 (sT s.1 s.2).2.2).2).2.2).2).2).2).2.1.length<=_;omega};{have:=g4 hs;show(jk (jk (lF jk (sB (jk (sT (sT s.1 s.2).2.1 (sT s.1 s.2).2.2).2).2.1 (jk (sT (sT s.1 s.2).2.1 (sT s.1 s.2).2.2).2).2.2).2).2).2).2.1.length<_;omega}
def JZ{e g x:Int}(h:mw e g x t ss ns=true)(hr:∀nd∈ns,RgN nd):UZ ss ns:=
 XX h (fun nd br=>⟨(hr nd br).ho,fun i hi=>by rw[(hr nd br).l7]at hi;simp at hi⟩) (fun nd br=>(hr nd br).ow) (fun nd br=>⟨(hr nd br).ep,(hr nd br).ge⟩)
theorem Vl(hb:aM l)(hl:l.length<=1048576):dJ l=jP l:=by
 have tu:∀s,dJ l=some s->jP l=some s:=fun s h=>by
  rw[dJ]at h;cases hr:xM l with
  |none=>rw[hr]at h;cases h
  |some r=>
   rw[hr,yi]at h;split at h;{
 next hc=>
 obtain⟨⟨e,g,x⟩,ss,ns,o⟩:=r;simp only[jU]at h hc;obtain⟨-,iC,hB⟩:=hc;have cR:=hr;rw[xM]at cR;simp only at cR;have q1:=jM.start (n:=l.length) (l:=l) rfl;have q2:=gQ rfl q1;have q3:=gQ rfl q2;have q4:=gQ rfl q3;have q5:=gQ rfl q4;split at cR;{cases cR};{
 obtain⟨u1,u2⟩:=Ra oV U64 (jM l.length l) (fun s hs=>⟨iS,gQ rfl hs⟩) (oV (oV (oV (oV (some l)).2).2).2).1.toNat _ q5;split at cR;{cases cR};{
 rw[Bt]at cR;obtain⟨⟨r1,r2⟩,h3,h4⟩:=cR;obtain⟨v1,-,-⟩:=uP rfl hb hl _ (gQ rfl u2) h3;simp only[fO]at h4;obtain⟨⟨rfl,rfl,rfl⟩,rfl,rfl,rfl⟩:=h4;have hS:=JZ iC v1;have z1:=iS (om:=some l);have z2:=iS (om:=(oV (some l)).2);have z3:=iS (om:=(oV (oV (some l)).2).2);have w1:∀s∈((rL oV (oV (oV (oV (oV (some l)).2).2).2).1.toNat (oV (oV (oV (oV (some l)).2).2).2).2).1.map Qc),s.2=(0,[]):=fun s hs=>by
  obtain⟨i,-,rfl⟩:=iJ.1 hs
  rfl
 have him:=VQ (e:=(oV (some l)).1.toNat) (g:=(oV (oV (some l)).2).1.toNat) (x:=(oV (oV (oV (some l)).2).2).1.toNat) (by have:=z1.2;have:=z1.1;omega) (by have:=z2.2;have:=z2.1;omega) (by have:=z3.2;have:=z3.1;omega) hS w1 (fun nd br=>(v1 nd br).l7);rw[hB,Bp z1.1,Bp z2.1,Bp z3.1]at him;rw[jP];simp only[him];rw[bN ⟨jW,by rw[Ij,bN iC];exact hB⟩,<-h]}}};{cases h}
 have fro:∀s,jP l=some s->dJ l=some s:=fun s h=>by
  rw[jP]at h;split at h;{
 next hc=>
 obtain⟨hsh,hE⟩:=hc;have iC:mw (pL l).1.1 (pL l).1.2.1 (pL l).1.2.2 0 (pL l).2.1 (pL l).2.2.1=true:=by by_cases hk:mw (pL l).1.1 (pL l).1.2.1 (pL l).1.2.2 0 (pL l).2.1 (pL l).2.2.1=true;{exact hk};{rw[Ij,bH hk]at hE;rw[<-hE,ZE]at hsh;cases hsh}
 rw[Ij,bN iC]at hE;obtain⟨a1,a2,a3,-⟩:=ir (l,false) hb hl;obtain⟨b1,b2,b3,-⟩:=ir (jk (l,false)).2 a2 (by simp only at a3;omega);obtain⟨c1,c2,c3,-⟩:=ir (jk (jk (l,false)).2).2 b2 (by simp only at a3;omega);obtain⟨d1,d2,d3,-⟩:=Jk Q5 c2 (by simp only at a3;omega);obtain⟨e1,-⟩:=Jk Q6 d2 (by simp only at a3;omega);have hS:=JZ iC e1;have VT:=Vn (e:=(pL l).1.1.toNat) (g:=(pL l).1.2.1.toNat) (x:=(pL l).1.2.2.toNat) (by have:=a1.2;have:=a1.1;show(jk (l,false)).1.toNat<_;omega) (by have:=b1.2;have:=b1.1;show(jk (jk (l,false)).2).1.toNat<_;omega) (by have:=c1.2;have:=c1.1;show(jk (jk (jk (l,false)).2).2).1.toNat<_;omega) hS (fun s hs=>(d1 s hs).2) (fun nd br=>(e1 nd br).l7);rw[hE,Bp (show 0<=(pL l).1.1 from a1.1),Bp (show 0<=(pL l).1.2.1 from b1.1),Bp (show 0<=(pL l).1.2.2 from c1.1)]at VT;rw[dJ,VT,yi,bN ⟨ai,iC,hE⟩];exact h};{cases h}
 cases h:dJ l with
 |some s=>exact(tu s h).symm
 |none=>
  cases h2:jP l with
  |none=>rfl
  |some s=>rw[fro s h2]at h;cases h
def yW{ls:List LI}(h:∀l∈ls,aM l):aM (cat ls):=fun z hz=>by
 rw[cat,Hk]at hz;obtain⟨l,hl,hz⟩:=hz;exact h l hl z hz
def xH(h:U64 i):aM (mj i):=jY (by have:=h.1;have:=h.2;omega)
def XK(h:aM l)(hl:l.length<18446744073709551616):aM (tx l):=aM.app (jY hl) h
def aq5(h:RgN nd):aM (nM nd):=by
 rw[nM,W6];refine yW fun l hl=>?_;simp only[jA,I9,Bv]at hl;rcases hl with rfl|rfl|rfl|rfl|rfl|rfl|rfl;{exact XK h.by0 (by have:=h.l0;omega)};{exact XK h.by1 (by have:=h.l1;omega)};{exact xH h.ow};{intro z hz;rw[yx]at hz;rw[hz];exact h.mo};{rw[tK];refine yW fun l hl=>?_;rcases jA.1 hl with rfl|hl;{exact jY (by have:=h.l4;omega)};{obtain⟨i,hi,rfl⟩:=iJ.1 hl;exact xH (h.ho i hi)}};{exact xH h.ep};{exact xH h.ge}
def Tu(he:e<18446744073709551616)(hg:g<18446744073709551616)(hx:x<18446744073709551616)(h:UZ ss ns)(hr:∀nd∈ns,RgN nd):aM (De e g x ss ns):=by
 have n1:=h.n1;have n2:=h.n2;rw[De];refine yW fun l hl=>?_;simp only[jA,I9,Bv]at hl;rcases hl with rfl|rfl|rfl|rfl|rfl;{exact jY he};{exact jY hg};{exact jY hx};{rw[tK];refine yW fun l hl=>?_;rcases jA.1 hl with rfl|hl;{exact jY ae};{obtain⟨s,hs,rfl⟩:=iJ.1 hl;exact xH (h.s s hs)}};{rw[tK];refine yW fun l hl=>?_;rcases jA.1 hl with rfl|hl;{exact jY ae};{obtain⟨nd,br,rfl⟩:=iJ.1 hl;exact aq5 (hr nd br)}}
open Go.Proofs.Tryz
def rU{w w':World}{o:Obj}(h:w.heap[b]?=some o)(hb:Bw w w'):w'.heap[b]?=some o:=(hb.block b (EF.1 h).1).trans h
def UX{w:World}{o:Obj}:(w.alloc o).heap[w.heap.size]?=some o:=by unfold World.alloc;simp
def Jy{w w':World}(ho:Own B w v l)(hg:w.grownBy w' v.ownBlock):∀(b:Nat)(cs:Array Value)(t:TypeId),t≠5->w.heap[b]?=some (.cells cs t)->w'.heap[b]?=some (.cells cs t):=fun b cs t ht h=>by
 refine(hg.block b (EF.1 h).1 fun e=>?_).trans h;rcases ho.2 with⟨rfl,-⟩|⟨g,cap,cur,rfl,-,hh,-⟩;{simp[Value.ownBlock]at e};{simp only[Value.ownBlock,jU]at e;subst e;rw[h]at hh;simp only[jU,Obj.cells.injEq]at hh;exact ht hh.2.1}
def aJ8(w w':World):Prop:=∀(b:Nat)(cs:Array Value)(t:TypeId),t≠5->w.heap[b]?=some (.cells cs t)->w'.heap[b]?=some (.cells cs t)
def QD{w0 w:World}{rest:List Oper}{o:Oper}{Q:Exit->Act->World->Prop}(mr:o.guard=none){x:Operand}(ho:o.op=.call {callee:=.builtin .append,args:=#[s,x],argTypes:=#[22,22]})(hB:Hid (Bw w0 w))(GR:Hid (lm=l++m))(hk:Hid (m.length=k))(eL:Hid (l.length=L))(eL':Hid (L'=L+k))(hs:a.eval s=v)(hx:a.eval x=.S p k c)(bO:Hid (Own w0.heap.size w v l))(hr:Hid (Rd w (.S p k c) m))(hl:L+k<=4194304)(hK:∀p' c' w',Hid (Own w0.heap.size w' (.S p' L' c') lm)->Hid (lm.length=L')->Hid (Bw w0 w')->Hid (aJ8 w w')->wpList prog ops Q rest (a.put o.dst (.S p' L' c')) w'):wpList prog ops Q (o::rest) a w:=by
 have e1:lm.length=L':=by rw[aa GR,ig,aa eL,aa hk,aa eL']
 refine bS mr ho v GR p c k hk hs hx (aa bO) (aa hr) (by rw[aa eL,aa hk];exact hl) hB.size ?_;intro p' c' w' h1 h2;rw[e1]at h1⊢;exact hK p' c' w' h1 e1 (dt hB h2 bO ao hB.size) (Jy bO h2)
def Mv{rest:List Oper}{o:Oper}{Q:Exit->Act->World->Prop}(mr:o.guard=none){x:Operand}(ho:o.op=.call {callee:=.builtin .append,args:=#[s,x],argTypes:=#[22,22]})(hB:Hid (Bw w0 u))(GR:Hid (lm=l++[y]))(eL:Hid (l.length=L))(eL':Hid (L'=L+1))(hs:a.eval s=v)(hx:a.eval x=.T u.heap.size 1 1)(bO:Hid (Own w0.heap.size u v l))(hl:L<4194304)(hK:∀p' c' w',Hid (Own w0.heap.size w' (.S p' L' c') lm)->Hid (lm.length=L')->Hid (Bw w0 w')->Hid (aJ8 u w')->wpList prog ops Q rest (a.put o.dst (.S p' L' c')) w'):wpList prog ops Q (o::rest) a (u.alloc (.cells #[.int .u8 y] 5)):=by
 have e1:lm.length=L':=by rw[aa GR,ig,aa eL,aa eL'];rfl
 have hb:Bw u (u.alloc (.cells #[.int .u8 y] 5)):=ay.alloc ao _;have mP:=bO.below hb;have jc:=aj hB hb;refine eh mr ho v GR u.heap.size hs hx mP ai (by rw[aa eL];exact hl) jc.size ?_;intro p' c' w' h1 h2;rw[e1]at h1⊢;exact hK p' c' w' h1 e1 (dt jc h2 mP ao jc.size) fun b cs t ht h=>Jy mP h2 b cs t ht (rU h hb)
def jv.dG{w:World}{e g x:Int}{S N:Value}(h:w.heap[b]?=some (.cells #[.U e,.U g,.U x,.I t,S,N] ty)):jv w b e g x t S N:=⟨aq h 0,aq h 1,aq h 2,aq h 3,aq h 4,aq h 5⟩
def Md.dG{w:World}{v6 v7:Value}(h:w.heap[b]?=some (.cells #[v0,v1,v2,v3,v4,v5,v6,v7] ty)):Md w b v0 v1 v2 v3 v4 v5 v6 v7:=⟨aq h 0,aq h 1,aq h 2,aq h 3,aq h 4,aq h 5,aq h 6,aq h 7⟩
def oz{v:Nat}{w:World}(h64:v<18446744073709551616)(eM:Hid ((vi v).length=M)):Cp 82 #[.U v] w fun e w'=>∃p' c',e=.returned (.S p' M c')/\Own w.heap.size w' (.S p' M c') (vi v)/\Bw w w':=Ay 9 v w ae h64 ae M eM
def qP{α:Type}(f:α->LI){l:List α}{y:α}(h:l[k]?=some y):cat ((l.take (k+1)).map f)=cat ((l.take k).map f)++f y:=by
 rw[ng,h,ko,cat,Jf,cat];simp
def aM0(e g x:Nat)(ss:List aR)(ns:List aB):De e g x ss ns=((((vi e++vi g)++vi x)++vi ss.length)++cat (ss.map tY)++vi ns.length)++cat (ns.map nM):=by
 rw[De,qJ,qJ];simp[cat]
def aN7(nd:aB):nM nd=((((((tx nd.path++tx nd.value)++mj nd.owner)++[nd.mode])++vi nd.holders.length)++cat (nd.holders.map mj))++mj nd.aJ)++mj nd.gen:=by
 rw[nM,W6,qJ];simp[cat,mj]
def Bn(w0:World)(c1:Array Value)(t1:TypeId)(b2:Nat)(c2:Array Value)(t2:TypeId)(w:World)(v:Value)(l:LI):Prop:=Own w0.heap.size w v l/\Bw w0 w/\w.heap[w0.heap.size]?=some (.cells c1 t1)/\w.heap[b2]?=some (.cells c2 t2)
def Bn.Qq{w0 w w':World}(h:Bn w0 c1 t1 b2 c2 t2 w v l)(hb:Bw w w'):Bn w0 c1 t1 b2 c2 t2 w' v l:=⟨Own.below h.1 hb,aj h.2.1 hb,rU h.2.2.1 hb,rU h.2.2.2 hb⟩
def fG{w0 w:World}{rest:List Oper}{o:Oper}{Q:Exit->Act->World->Prop}(mr:o.guard=none){x:Operand}(ho:o.op=.call {callee:=.builtin .append,args:=#[s,x],argTypes:=#[22,22]})(hQ:Hid (Bn w0 c1 t1 b2 c2 t2 w v l))(GR:Hid (lm=l++m))(hk:Hid (m.length=k))(eL:Hid (l.length=L))(hs:a.eval s=v)(hx:a.eval x=.S p k c)(hr:Hid (Rd w (.S p k c) m))(hl:L+k<=4194304)(hK:∀p' c' w' L',Hid (Bn w0 c1 t1 b2 c2 t2 w' (.S p' L' c') lm)->Hid (lm.length=L')->L'<=L+k->wpList prog ops Q rest (a.put o.dst (.S p' L' c')) w')(h1:t1≠5:=by decide)(h2:t2≠5:=by decide):wpList prog ops Q (o::rest) a w:=
 QD mr ho (af hQ.2.1) GR hk eL (af rfl) hs hx (af hQ.1) hr hl fun p' c' w' k1 k2 k3 k4=>hK p' c' w' _ (af ⟨k1,k3,k4 _ _ _ h1 hQ.2.2.1,k4 _ _ _ h2 hQ.2.2.2⟩) k2 ao
def QE{rest:List Oper}{o:Oper}{Q:Exit->Act->World->Prop}(mr:o.guard=none){x:Operand}(ho:o.op=.call {callee:=.builtin .append,args:=#[s,x],argTypes:=#[22,22]})(hQ:Hid (Bn w0 c1 t1 b2 c2 t2 u v l))(GR:Hid (lm=l++[y]))(eL:Hid (l.length=L))(hs:a.eval s=v)(hx:a.eval x=.T u.heap.size 1 1)(hl:L<4194304)(hK:∀p' c' w' L',Hid (Bn w0 c1 t1 b2 c2 t2 w' (.S p' L' c') lm)->Hid (lm.length=L')->L'<=L+1->wpList prog ops Q rest (a.put o.dst (.S p' L' c')) w')(h1:t1≠5:=by decide)(h2:t2≠5:=by decide):wpList prog ops Q (o::rest) a (u.alloc (.cells #[.int .u8 y] 5)):=
 Mv mr ho (af hQ.2.1) GR eL (af rfl) hs hx (af hQ.1) hl fun p' c' w' k1 k2 k3 k4=>hK p' c' w' _ (af ⟨k1,k3,k4 _ _ _ h1 hQ.2.2.1,k4 _ _ _ h2 hQ.2.2.2⟩) k2 ao
def Zx9:=@u7
def VI(he:e<18446744073709551616)(hg:g<18446744073709551616)(hx:x<18446744073709551616){p q:OA}{c n d m:Nat}(en:Hid (ss.length=n))(em:Hid (ns.length=m)){w:World}(h:yZ w (.S p n c) ss)(hN:qz w (.S q m d) ns)(HS:Hid (SmW ss ns))(eN:Hid ((De e g x ss ns).length=N)):Cp 47 #[gh e g x t (.S p n c) (.S q m d)] w fun r w'=>∃p' c',r=.returned (.S p' N c')/\Own w.heap.size w' (.S p' N c') (De e g x ss ns)/\Bw w w':=by
 have HR:=af fun(w':World)(hb:Bw w w')=>ah (h.below hb) (hN.below hb);clear h hN;have hn5:n<=51:=by have:=HS.n1;rw[aa en]at this;exact this
 have hm5:m<=201:=by have:=HS.n2;rw[aa em]at this;exact this
 have wn:IntKind.u64.wrap (n:Int)=(n:Int):=by rw[IntKind.wrap_u64];omega
 have wm:IntKind.u64.wrap (m:Int)=(m:Int):=by rw[IntKind.wrap_u64];omega
 obtain⟨M0,f0⟩:∃M,Hid ((vi e).length=M):=⟨_,bq⟩;have hM0:M0<=10:=by have:=(ew e).2;rw[aa f0]at this;exact this
 obtain⟨M1,f1⟩:∃M,Hid ((vi g).length=M):=⟨_,bq⟩;have hM1:M1<=10:=by have:=(ew g).2;rw[aa f1]at this;exact this
 obtain⟨M2,f2⟩:∃M,Hid ((vi x).length=M):=⟨_,bq⟩;have hM2:M2<=10:=by have:=(ew x).2;rw[aa f2]at this;exact this
 obtain⟨M3,f3⟩:∃M,Hid ((vi n).length=M):=⟨_,bq⟩;have hM3:M3<=10:=by have:=(ew n).2;rw[aa f3]at this;exact this
 obtain⟨M5,f5⟩:∃M,Hid ((vi m).length=M):=⟨_,bq⟩;have hM5:M5<=10:=by have:=(ew m).2;rw[aa f5]at this;exact this
 obtain⟨A1,Pk⟩:∃l,Hid (l=vi e++vi g):=⟨_,bq⟩;obtain⟨A2,Ss⟩:∃l,Hid (l=A1++vi x):=⟨_,bq⟩;obtain⟨A3,hA3⟩:∃l,Hid (l=A2++vi n):=⟨_,bq⟩;obtain⟨W,hW⟩:=au (w.alloc (.cells #[.U e,.U g,.U x,.I t,.S p n c,.S q m d] 32));have BW:Hid (Bw w W):=by rw[hW];exact ay.alloc ao _
 have KW:Hid (W.heap[w.heap.size]?=some (.cells #[.U e,.U g,.U x,.I t,.S p n c,.S q m d] 32)):=by rw[hW];exact UX
 go_enter func47,ntmps47;go_wp2_with fail;rw[<-hW];clear hW;refine(oz he f0).mono ?_;rintro z9 y1⟨py1,cy1,rfl,oy1,Pa⟩;have By1:=af (aj BW Pa);have Ky1:=af (rU KW Pa);have Oy1:=af (Own.mono (B':=w.heap.size) oy1 BW.size);have Qy1:Hid (Bn w #[.U e,.U g,.U x,.I t,.S p n c,.S q m d] 32 w.heap.size #[.U e,.U g,.U x,.I t,.S p n c,.S q m d] 32 y1 (.S py1 M0 cy1) (vi e)):=⟨Oy1,By1,Ky1,Ky1⟩;clear oy1 Pa BW KW Oy1 By1;obtain⟨i0,i1,i2,i3,i4,i5⟩:=jv.dG Qy1.2.2.1;go_wp2_with fail;refine(oz hg f1).mono ?_;rintro z9 y2⟨py2,cy2,rfl,oy2,br6⟩;have Qy2:=af (Qy1.Qq br6);have Ry2:=af oy2.rd;clear oy2 br6 Qy1 Ky1 i0 i1 i2 i3 i4 i5;go_wp2_with(at_builtin;refine fG rfl rfl Qy2 Pk f1 f0 rfl rfl Ry2 ae ?_);intro dk5 dC6 y3 Ly3 Qy3 cp4 dE0;clear Qy2;obtain⟨i0,i1,i2,i3,i4,i5⟩:=jv.dG Qy3.2.2.1;go_wp2_with fail;refine(oz hx f2).mono ?_;rintro z9 y4⟨py4,cy4,rfl,oy4,br5⟩;have Qy4:=af (Qy3.Qq br5);have Ry4:=af oy4.rd;clear oy4 br5 Qy3 i0 i1 i2 i3 i4 i5;go_wp2_with(at_builtin;refine fG rfl rfl Qy4 Ss f2 cp4 rfl rfl Ry4 ae ?_);intro dk4 dC5 y5 Ly5 Qy5 cp3 dD9;clear Qy4;obtain⟨i0,i1,i2,i3,i4,i5⟩:=jv.dG Qy5.2.2.1;go_wp2_with fail;refine(oz ae f3).mono ?_;rintro z9 y6⟨py6,cy6,rfl,oy6,br4⟩;have Qy6:=af (Qy5.Qq br4);have Ry6:=af oy6.rd;clear oy6 br4 Qy5 i0 i1 i2 i3 i4 i5;go_wp2_with(at_builtin;refine fG rfl rfl Qy6 hA3 f3 cp3 rfl rfl Ry6 ae ?_);intro dk3 dC4 y7 Ly7 Qy7 cp2 dD8;clear Qy6;have lA3:Hid (A3.length=Ly7):=cp2;have bA3:Ly7<=40:=ae;obtain⟨i0,i1,i2,i3,i4,i5⟩:=jv.dG Qy7.2.2.1;go_wp2;clear i0 i1 i2 i3 i4 i5
 go_loopw[3,4](fun ov iv wr=>∃(k:Nat)(po:OA)(co L:Nat),k<=n/\ov=.S po L co/\iv=.I k/\L<=40+10*k/\Hid ((A3++cat ((ss.take k).map tY)).length=L)/\Hid (Own w.heap.size wr (.S po L co) (A3++cat ((ss.take k).map tY)))/\Hid (wr.heap[w.heap.size]?=some (.cells #[.U e,.U g,.U x,.I t,.S p n c,.S q m d] 32))/\Hid (Bw w wr)) (fun _ iv _=>n-(intOf iv).toNat)
 exact⟨0,_,_,_,gq _,rfl,rfl,ae,(by show _=_;simp only[rJ,Cx,Zx9,CE];exact aa lA3),(by show Own _ _ _ _;simp only[rJ,Cx,Zx9,CE];exact Qy7.1),Qy7.2.2.1,Qy7.2.1⟩;{
 clear Qy7;obtain⟨k,po,co,L,hk,rfl,rfl,hLk,eL,Or,Kr,Br⟩:=hrel;by_cases aX:k<n;{
 have bu:=aP k n;have dA:k<ss.length:=by rw[aa en];exact aX
 obtain⟨sk0,hy⟩:∃y,ss[k]?=some y:=⟨_,aO dA⟩;have hi:=HS.s _ (aS hy);obtain⟨v,ev⟩:∃v:Nat,sk0.1=(v:Int):=⟨sk0.1.toNat,ae⟩;obtain⟨b,o,rfl,qL⟩:∃b o,p=some ⟨b,o,none⟩/\wr.cell? ⟨b,o+k*3,none⟩=some (.U v):=by obtain⟨p',c',evv,hd⟩:=(aa HR _ Br).1;simp only[dU]at evv;obtain⟨rfl,-,-⟩:=evv;rcases hd with h0|⟨b,o,h1,h2⟩;{rw[h0]at dA;simp at dA};{exact⟨b,o,h1,by rw[<-ev];exact(h2 k _ hy).1⟩}
 rw[ev]at hi;have eS:Hid (tY sk0=vi v):=by show _=_;rw[tY,ev];rfl
 obtain⟨M,eM⟩:∃M,Hid ((vi v).length=M):=⟨_,bq⟩;have hM:M<=10:=by have:=(ew v).2;rw[aa eM]at this;exact this
 obtain⟨A,hA⟩:∃A,Hid (A=A3++cat ((ss.take k).map tY)):=⟨_,bq⟩;rw[<-aa hA]at eL Or;obtain⟨AA,hAA⟩:∃l,Hid (l=A++vi v):=⟨_,bq⟩;have EA:Hid (A3++cat ((ss.take (k+1)).map tY)=AA):=by show _=_;rw[aa hAA,aa hA,qP tY hy,aa eS,tj]
 have wk:IntKind.i64.wrap ((k:Int)+1)=((k+1:Nat):Int):=by rw[ni _ ae];omega
 clear dA hy ev eS;have Qr:=af (show Bn w _ _ w.heap.size _ _ _ _ _ from⟨Or,Br,Kr,Kr⟩);obtain⟨i0,i1,i2,i3,i4,i5⟩:=jv.dG Kr;go_wp2_with fail;refine(oz ae eM).mono ?_;rintro z9 y8⟨py8,cy8,rfl,oy8,br3⟩;have Qy8:=af (Qr.Qq br3);have Ry8:=af oy8.rd;clear oy8 br3 Qr Or Br Kr i0 i1 i2 i3 i4 i5;clear qL;go_wp2_with(at_builtin;refine fG rfl rfl Qy8 hAA eM eL rfl rfl Ry8 ae ?_);intro dk2 dC3 y9 Ly9 Qy9 cp1 dD7;clear Qy8;obtain⟨i0,i1,i2,i3,i4,i5⟩:=jv.dG Qy9.2.2.1;go_wp2;go_roundw;exact⟨k+1,_,_,_,ae,rfl,by go_num,ae,(by rw[aa EA];exact cp1),(by rw[aa EA];exact Qy9.1),Qy9.2.2.1,Qy9.2.1⟩;exact bG};{
 have bu:=du k n;have vL:n=k:=ae;subst vL;rw[kq (by rw[aa en];exact jS _)]at eL Or;obtain⟨A4,hA4⟩:∃A,Hid (A=A3++cat (ss.map tY)):=⟨_,bq⟩;rw[<-aa hA4]at eL Or;obtain⟨A5,hA5⟩:∃A,Hid (A=A4++vi m):=⟨_,bq⟩;clear hk aX;have Qr:=af (show Bn w _ _ w.heap.size _ _ _ _ _ from⟨Or,Br,Kr,Kr⟩);obtain⟨i0,i1,i2,i3,i4,i5⟩:=jv.dG Kr;go_wp2_with fail;refine(oz ae f5).mono ?_;rintro z9 y10⟨dj9,dC1,rfl,bk7,aG6⟩;have bC5:=af (Qr.Qq aG6);have cu2:=af bk7.rd;clear bk7 aG6 Qr Or Br Kr i0 i1 i2 i3 i4 i5;go_wp2_with(at_builtin;refine fG rfl rfl bC5 hA5 f5 eL rfl rfl cu2 ae ?_);intro cF7 cU3 y11 cv3 ai2 aI9 cW0;clear bC5;have bA5:cv3<=600:=ae;have EN:Hid (De e g x ss ns=A5++cat (ns.map nM)):=by show _=_;rw[aM0,aa hA5,aa hA4,aa hA3,aa Ss,aa Pk,aa en,aa em]
 clear bu;obtain⟨i0,i1,i2,i3,i4,i5⟩:=jv.dG ai2.2.2.1;go_wp2;clear i0 i1 i2 i3 i4 i5
 go_loopw[3,5](fun ov iv wr=>∃(k:Nat)(po:OA)(co L:Nat),k<=m/\ov=.S po L co/\iv=.I k/\L<=600+800*k/\Hid ((A5++cat ((ns.take k).map nM)).length=L)/\Hid (Own w.heap.size wr (.S po L co) (A5++cat ((ns.take k).map nM)))/\Hid (wr.heap[w.heap.size]?=some (.cells #[.U e,.U g,.U x,.I t,.S p n c,.S q m d] 32))/\Hid (Bw w wr)) (fun _ iv _=>m-(intOf iv).toNat)
 exact⟨0,_,_,_,gq _,rfl,rfl,ae,(by show _=_;simp only[rJ,Cx,Zx9,CE];exact aa aI9),(by show Own _ _ _ _;simp only[rJ,Cx,Zx9,CE];exact ai2.1),ai2.2.2.1,ai2.2.1⟩;{
 clear ai2 aI9;obtain⟨k,po,co,L,hk,rfl,rfl,hLk,eL,Or,Kr,Br⟩:=hrel;by_cases aX:k<m;{
 have bu:=aP k m;have dA:k<ns.length:=by rw[aa em];exact aX
 obtain⟨nd,hy⟩:∃y,ns[k]?=some y:=⟨_,aO dA⟩;have hi:=HS.d nd (aS hy);have hlen:=(Kk HS nd (aS hy)).1;obtain⟨b,o,rfl,PP,PV,PH,PU,Xg⟩:∃b o,q=some ⟨b,o,none⟩/\∃P V H U,qV w b (o+k*8) nd P V H U:=by obtain⟨p',c',ev,hd⟩:=(aa HR _ ay).2;simp only[dU]at ev;obtain⟨rfl,-,-⟩:=ev;rcases hd with h0|⟨b,o,h1,h2⟩;{rw[h0]at dA;simp at dA};{exact⟨b,o,h1,h2 k _ hy⟩}
 obtain⟨P,eP⟩:=aI nd.path;obtain⟨V,eV⟩:=aI nd.value;obtain⟨H,eH⟩:=aI nd.holders;obtain⟨pA,cA,nA,rfl,eA⟩:=Xg.r0.iB;obtain⟨pB,cB,nB,rfl,eB⟩:=Xg.r1.iB;obtain⟨pD,cD,nD,rfl,eD⟩:=Xg.r4.iB;obtain⟨pU,cU,nU,rfl,-⟩:=Xg.r7.iB;obtain⟨qL,iD,js,Cb,GM,yK,uY,hc7,-⟩:=Xg.below Br;obtain⟨-,-,-,-,-,-,-,-,q0,q1,q4,-,-⟩:=Xg;rw[eP]at q0;rw[eV]at q1;rw[eH]at q4;have QQ:=af fun(w':World)(hb:Bw w w')=>ah (q0.below hb) (ah (q1.below hb) (q4.below hb));obtain⟨⟨j1,j2,j3⟩,j4,j5,j6,j7,j8⟩:=hi;rw[aa eA]at j1;rw[aa eB]at j2;rw[aa eD]at j3;have J8:=af j8;obtain⟨ow,Wr⟩:∃v:Nat,nd.owner=(v:Int):=⟨nd.owner.toNat,ae⟩;obtain⟨ep,eep⟩:∃v:Nat,nd.aJ=(v:Int):=⟨nd.aJ.toNat,ae⟩;obtain⟨ge,ege⟩:∃v:Nat,nd.gen=(v:Int):=⟨nd.gen.toNat,ae⟩;obtain⟨mo,emo⟩:∃v:Int,nd.mode=v:=⟨_,rfl⟩;rw[Wr]at js j5;rw[eep]at yK j6;rw[ege]at uY j7;rw[emo]at Cb j4;rw[eP]at eA;rw[eV]at eB;rw[eH]at eD J8;have EB:Hid (nM nd=((((((tx P++tx V)++vi ow)++[mo])++vi nD)++cat (H.map mj))++vi ep)++vi ge):=by show _=_;rw[aN7,Wr,eep,ege,emo,eP,eV,eH,mj,mj,mj,aa eD];rfl
 have HY:=af hy;have wmo:IntKind.u8.wrap mo=mo:=by rw[IntKind.wrap_u8];omega
 have wh:IntKind.u64.wrap (nD:Int)=(nD:Int):=by rw[IntKind.wrap_u64];omega
 have wk:IntKind.i64.wrap ((k:Int)+1)=((k+1:Nat):Int):=by rw[ni _ ae];omega
 obtain⟨T0,t0⟩:∃M,Hid ((tx P).length=M):=⟨_,bq⟩;obtain⟨T1,t1⟩:∃M,Hid ((tx V).length=M):=⟨_,bq⟩;have bT0:T0<=146:=by have:=(tS P).2;rw[aa t0,aa eA]at this;omega
 have bT1:T1<=51:=by have:=(tS V).2;rw[aa t1,aa eB]at this;omega
 obtain⟨G0,g0⟩:∃M,Hid ((vi ow).length=M):=⟨_,bq⟩;have hG0:G0<=10:=by have:=(ew ow).2;rw[aa g0]at this;exact this
 obtain⟨G1,g1⟩:∃M,Hid ((vi nD).length=M):=⟨_,bq⟩;have hG1:G1<=10:=by have:=(ew nD).2;rw[aa g1]at this;exact this
 obtain⟨G2,g2⟩:∃M,Hid ((vi ep).length=M):=⟨_,bq⟩;have hG2:G2<=10:=by have:=(ew ep).2;rw[aa g2]at this;exact this
 obtain⟨G3,g3⟩:∃M,Hid ((vi ge).length=M):=⟨_,bq⟩;have hG3:G3<=10:=by have:=(ew ge).2;rw[aa g3]at this;exact this
 obtain⟨C,hC⟩:∃A,Hid (A=A5++cat ((ns.take k).map nM)):=⟨_,bq⟩;rw[<-aa hC]at eL Or;obtain⟨C1,hC1⟩:∃l,Hid (l=C++tx P):=⟨_,bq⟩;obtain⟨C2,hC2⟩:∃l,Hid (l=C1++tx V):=⟨_,bq⟩;obtain⟨C3,hC3⟩:∃l,Hid (l=C2++vi ow):=⟨_,bq⟩;obtain⟨C4,hC4⟩:∃l,Hid (l=C3++[mo]):=⟨_,bq⟩;obtain⟨C5,hC5⟩:∃l,Hid (l=C4++vi nD):=⟨_,bq⟩;obtain⟨C6,hC6⟩:∃l,Hid (l=C5++cat (H.map mj)):=⟨_,bq⟩;obtain⟨C7,hC7⟩:∃l,Hid (l=C6++vi ep):=⟨_,bq⟩;obtain⟨C8,hC8⟩:∃l,Hid (l=C7++vi ge):=⟨_,bq⟩;have EC:Hid (A5++cat ((ns.take (k+1)).map nM)=C8):=by show _=_;rw[qP nM (aa HY),aa EB,aa hC8,aa hC7,aa hC6,aa hC5,aa hC4,aa hC3,aa hC2,aa hC1,aa hC];simp only[tj]
 clear q0 q1 q4 j8 Wr eep ege emo eP eV eH dA hy hlen;have Qr:=af (show Bn w _ _ w.heap.size _ _ _ _ _ from⟨Or,Br,Kr,Kr⟩);obtain⟨i0,i1,i2,i3,i4,i5⟩:=jv.dG Kr;go_wp2_with fail;clear i0 i1 i2 i3 i4 i5 qL iD js Cb GM yK uY hc7;obtain⟨X,hX⟩:=au (wr.alloc (.cells #[.S pA nA cA,.S pB nB cB,.U ow,.I mo,.S pD nD cD,.U ep,.U ge,.S pU nU cU] 93));have GN:=dO hX;obtain⟨nb,hnb⟩:=au wr.heap.size;have NX:Hid (X.heap[nb]?=some (.cells #[.S pA nA cA,.S pB nB cB,.U ow,.I mo,.S pD nD cD,.U ep,.U ge,.S pU nU cU] 93)):=by rw[hX,hnb];exact UX
 have OX:=af (Own.below Or GN);have BX:=af (aj Br GN);have KX:=af (rU Kr GN);rw[<-hX,<-hnb];clear hX GN Or Br Kr hnb;have QX:=af (show Bn w _ _ nb _ _ _ _ _ from⟨OX,BX,KX,NX⟩);refine(sw eA (aa QQ _ BX).1 ae t0).mono ?_;rintro z9 y12⟨dj8,dC0,rfl,bk6,aG5⟩;have bC4:=af (QX.Qq aG5);have cu1:=af bk6.rd;clear bk6 aG5 QX OX BX KX NX;go_wp2_with(at_builtin;refine fG rfl rfl bC4 hC1 t0 eL rfl rfl cu1 ae ?_);intro cF6 cU2 y13 dI1 ai1 bz6 cV9;clear bC4;obtain⟨i0,i1,i2,i3,i4,i5⟩:=jv.dG ai1.2.2.1;obtain⟨a0,a1,a2,a3,a4,a5,a6,a7⟩:=Md.dG ai1.2.2.2;go_wp2_with fail;refine(sw eB (aa QQ _ ai1.2.1).2.1 ae t1).mono ?_;rintro z9 y14⟨dj7,dB9,rfl,bk5,aG4⟩;have bC3:=af (ai1.Qq aG4);have cu0:=af bk5.rd;clear bk5 aG4 ai1 i0 i1 i2 i3 i4 i5 a0 a1 a2 a3 a4 a5 a6 a7;go_wp2_with(at_builtin;refine fG rfl rfl bC3 hC2 t1 bz6 rfl rfl cu0 ae ?_);intro cF5 cU1 y15 dI0 aA3 bz5 cV8;clear bC3;obtain⟨i0,i1,i2,i3,i4,i5⟩:=jv.dG aA3.2.2.1;obtain⟨a0,a1,a2,a3,a4,a5,a6,a7⟩:=Md.dG aA3.2.2.2;go_wp2_with fail;refine(oz ae g0).mono ?_;rintro z9 y16⟨dj6,dB8,rfl,bk4,aG3⟩;have bC2:=af (aA3.Qq aG3);have ct9:=af bk4.rd;clear bk4 aG3 aA3 i0 i1 i2 i3 i4 i5 a0 a1 a2 a3 a4 a5 a6 a7;go_wp2_with(at_builtin;refine fG rfl rfl bC2 hC3 g0 bz5 rfl rfl ct9 ae ?_);intro cF4 cU0 y17 dH9 aA2 bz4 cV7;clear bC2;obtain⟨i0,i1,i2,i3,i4,i5⟩:=jv.dG aA2.2.2.1;obtain⟨a0,a1,a2,a3,a4,a5,a6,a7⟩:=Md.dG aA2.2.2.2;go_wp2_with(at_builtin;refine QE rfl rfl aA2 hC4 bz4 rfl rfl ae ?_);intro cF3 cT9 y18 dH8 aA1 bz3 cV6;clear aA2;clear i0 i1 i2 i3 i4 i5 a0 a1 a2 a3 a4 a5 a6 a7;obtain⟨i0,i1,i2,i3,i4,i5⟩:=jv.dG aA1.2.2.1;obtain⟨a0,a1,a2,a3,a4,a5,a6,a7⟩:=Md.dG aA1.2.2.2;go_wp2_with fail;refine(oz ae g1).mono ?_;rintro z9 y19⟨dj5,dB7,rfl,bk3,aG2⟩;have bC1:=af (aA1.Qq aG2);have ct8:=af bk3.rd;clear bk3 aG2 aA1 i0 i1 i2 i3 i4 i5 a0 a1 a2 a3 a4 a5 a6 a7;go_wp2_with(at_builtin;refine fG rfl rfl bC1 hC5 g1 bz3 rfl rfl ct8 ae ?_);intro cF2 cT8 y20 cv2 Ti aI8 cV5;clear bC1;obtain⟨i0,i1,i2,i3,i4,i5⟩:=jv.dG Ti.2.2.1;obtain⟨a0,a1,a2,a3,a4,a5,a6,a7⟩:=Md.dG Ti.2.2.2;go_wp2;clear i0 i1 i2 i3 i4 i5 a0 a1 a2 a3 a4 a5 a6 a7
 go_loopw[3,7](fun ov kv wr=>∃(j:Nat)(po:OA)(co L:Nat),j<=nD/\ov=.S po L co/\kv=.I j/\L<=cv2+10*j/\Hid ((C5++cat ((H.take j).map mj)).length=L)/\Hid (Own w.heap.size wr (.S po L co) (C5++cat ((H.take j).map mj)))/\Hid (wr.heap[w.heap.size]?=some (.cells #[.U e,.U g,.U x,.I t,.S p n c,.S (some ⟨b,o,none⟩) m d] 32))/\Hid (wr.heap[nb]?=some (.cells #[.S pA nA cA,.S pB nB cB,.U ow,.I mo,.S pD nD cD,.U ep,.U ge,.S pU nU cU] 93))/\Hid (Bw w wr)) (fun _ kv _=>nD-(intOf kv).toNat)
 exact⟨0,_,_,_,gq _,rfl,rfl,ae,(by show _=_;simp only[rJ,Cx,Zx9,CE];exact aa aI8),(by show Own _ _ _ _;simp only[rJ,Cx,Zx9,CE];exact Ti.1),Ti.2.2.1,Ti.2.2.2,Ti.2.1⟩;{
 clear Ti aI8 eL;obtain⟨j,pr,cr,Lr,hj,rfl,rfl,hLj,eLr,Or,Kr,Nr,Br⟩:=hrel;by_cases hlj:j<nD;{
 have cd9:=aP j nD;have zw:j<H.length:=by rw[aa eD];exact hlj
 obtain⟨iv,hy⟩:∃y,H[j]?=some y:=⟨_,aO zw⟩;have hi:=aa J8 iv (aS hy);obtain⟨v,rfl⟩:∃v:Nat,iv=(v:Int):=⟨iv.toNat,ae⟩;obtain⟨b',o',rfl,hc⟩:∃b o,pD=some ⟨b,o,none⟩/\wr.cell? ⟨b,o+j,none⟩=some (.U v):=by obtain⟨p',c',ev,hd⟩:=(aa QQ _ Br).2.2;simp only[dU]at ev;obtain⟨rfl,-,-⟩:=ev;rcases hd with h0|⟨b,o,h1,h2⟩;{rw[h0]at zw;simp at zw};{refine⟨b,o,h1,?_⟩;have:=h2 j zw;rw[gj,hy,qI]at this;exact this}
 obtain⟨M,eM⟩:∃M,Hid ((vi v).length=M):=⟨_,bq⟩;have hM:M<=10:=by have:=(ew v).2;rw[aa eM]at this;exact this
 obtain⟨A,hA⟩:∃A,Hid (A=C5++cat ((H.take j).map mj)):=⟨_,bq⟩;rw[<-aa hA]at eLr Or;obtain⟨AA,hAA⟩:∃l,Hid (l=A++vi v):=⟨_,bq⟩;have EA:Hid (C5++cat ((H.take (j+1)).map mj)=AA):=by show _=_;rw[aa hAA,aa hA,qP mj hy,tj];rfl
 have wj:IntKind.i64.wrap ((j:Int)+1)=((j+1:Nat):Int):=by rw[ni _ ae];omega
 clear zw hy;have Qr:=af (show Bn w _ _ nb _ _ _ _ _ from⟨Or,Br,Kr,Nr⟩);obtain⟨i0,i1,i2,i3,i4,i5⟩:=jv.dG Kr;obtain⟨a0,a1,a2,a3,a4,a5,a6,a7⟩:=Md.dG Nr;go_wp2_with fail;refine(oz ae eM).mono ?_;rintro z9 y21⟨dj4,dB6,rfl,bk2,aG1⟩;have bC0:=af (Qr.Qq aG1);have ct7:=af bk2.rd;clear bk2 aG1 Qr Or Br Kr Nr i0 i1 i2 i3 i4 i5 a0 a1 a2 a3 a4 a5 a6 a7;clear hc;go_wp2_with(at_builtin;refine fG rfl rfl bC0 hAA eM eLr rfl rfl ct7 ae ?_);intro cF1 cT7 y22 dH7 WQ bz2 cV4;clear bC0;obtain⟨i0,i1,i2,i3,i4,i5⟩:=jv.dG WQ.2.2.1;obtain⟨a0,a1,a2,a3,a4,a5,a6,a7⟩:=Md.dG WQ.2.2.2;go_wp2;go_roundw;exact⟨j+1,_,_,_,ae,rfl,by go_num,ae,(by rw[aa EA];exact bz2),(by rw[aa EA];exact WQ.1),WQ.2.2.1,WQ.2.2.2,WQ.2.1⟩;exact bG};{
 have cd9:=du j nD;have ejn:nD=j:=ae;rw[kq (by rw[aa eD];omega)]at eLr Or;rw[<-aa hC6]at eLr Or;have Qr:=af (show Bn w _ _ nb _ _ _ _ _ from⟨Or,Br,Kr,Nr⟩);obtain⟨i0,i1,i2,i3,i4,i5⟩:=jv.dG Kr;obtain⟨a0,a1,a2,a3,a4,a5,a6,a7⟩:=Md.dG Nr;go_wp2_with fail;refine(oz ae g2).mono ?_;rintro z9 y23⟨dj3,dB5,rfl,bk1,aG0⟩;have bB9:=af (Qr.Qq aG0);have ct6:=af bk1.rd;clear bk1 aG0 Qr Or Br Kr Nr i0 i1 i2 i3 i4 i5 a0 a1 a2 a3 a4 a5 a6 a7;go_wp2_with(at_builtin;refine fG rfl rfl bB9 hC7 g2 eLr rfl rfl ct6 ae ?_);intro cF0 cT6 y24 dH6 aA0 bz1 cV3;clear bB9;obtain⟨i0,i1,i2,i3,i4,i5⟩:=jv.dG aA0.2.2.1;obtain⟨a0,a1,a2,a3,a4,a5,a6,a7⟩:=Md.dG aA0.2.2.2;go_wp2_with fail;refine(oz ae g3).mono ?_;rintro z9 y25⟨dj2,dB4,rfl,bk0,aF9⟩;have bB8:=af (aA0.Qq aF9);have ct5:=af bk0.rd;clear bk0 aF9 aA0 i0 i1 i2 i3 i4 i5 a0 a1 a2 a3 a4 a5 a6 a7;go_wp2_with(at_builtin;refine fG rfl rfl bB8 hC8 g3 bz1 rfl rfl ct5 ae ?_);intro cE9 cT5 y26 dH5 ai0 bz0 cV2;clear bB8;obtain⟨i0,i1,i2,i3,i4,i5⟩:=jv.dG ai0.2.2.1;obtain⟨a0,a1,a2,a3,a4,a5,a6,a7⟩:=Md.dG ai0.2.2.2;go_wp2;go_roundw;exact⟨k+1,_,_,_,ae,rfl,by go_num,ae,(by rw[aa EC];exact bz0),(by rw[aa EC];exact ai0.1),ai0.2.2.1,ai0.2.1⟩
 case measure=>simp[intOf];omega}}}
 {have bu:=du k m;have ekm:m=k:=ae;subst ekm;rw[kq (by rw[aa em];exact jS _),<-aa EN]at eL Or;have eLN:L=N:=eL.symm.trans eN;subst eLN;have Qr:=af (show Bn w _ _ w.heap.size _ _ _ _ _ from⟨Or,Br,Kr,Kr⟩);obtain⟨i0,i1,i2,i3,i4,i5⟩:=jv.dG Kr;go_wp2;go_ret;exact⟨po,co,rfl,Or,Br⟩}}}}
def Gn:Option ((Int×Int×Int)×List aR×List aB)->StD
 |none=>rz
 |some r=>⟨r.1.1,r.1.2.1,r.1.2.2,0,r.2.1,r.2.2⟩
def Gp:Option ((Int×Int×Int)×List aR×List aB)->Int
 |none=>13
 |some _=>0
def uf{c n:Nat}(en:Hid (l.length=n)){w:World}(h:Rd w (.S p n c) l)(hb:Hid (aM l))(hl:n<=1048576)(hs:Hid (jM n l om)){a:Int}(ea:Hid (mI n om=a)){x:Int}(e:Hid (oV om=(x,Hf)))(ea':Hid (mI n Hf=a')):Cp 42 #[.S p n c,.I a] w fun e w'=>e=.returned (.tuple #[.U x,.I a'])/\w'=w:=by
 have e1:=aa ea;have e2:=aa ea';subst e1 e2;exact An en h hb hl hs e
def bl2{c n:Nat}(en:Hid (l.length=n)){w:World}(h:Rd w (.S p n c) l)(hb:Hid (aM l))(hl:n<=1048576)(hs:Hid (jM n l om)){a:Int}(ea:Hid (mI n om=a)){x:Int}(e:Hid (oB om=(x,Hf)))(ea':Hid (mI n Hf=a')):Cp 44 #[.S p n c,.I a] w fun e w'=>e=.returned (.tuple #[.I x,.I a'])/\w'=w:=by
 have e1:=aa ea;have e2:=aa ea';subst e1 e2;exact oe en h hb hl hs e
def aC3{c n:Nat}(en:Hid (l.length=n)){w:World}(h:Rd w (.S p n c) l)(hb:Hid (aM l))(hl:n<=1048576)(vG:n<=c)(hs:Hid (jM n l om)){a:Int}(ea:Hid (mI n om=a)){x:LI}(e:Hid (oT om=(x,Hf)))(ea':Hid (mI n Hf=a'))(eN:Hid (x.length=N)):Cp 43 #[.S p n c,.I a] w fun e w'=>∃p' c',e=.returned (.tuple #[.S p' N c',.I a'])/\Own w.heap.size w' (.S p' N c') x/\Bw w w':=by
 have e1:=aa ea;have e2:=aa ea';subst e1 e2;exact od en h hb hl vG hs e eN
theorem DD{n:Nat}(hs:jM n l om):(mI n om<0↔om=none)/\mI n om<=n/\-1<=mI n om:=by
 cases om with
 |none=>simp[mI]
 |some m=>
  have:=(hs m rfl).1;simp only[mI];refine⟨⟨fun h=>ae,fun h=>by cases h⟩,ae,ae⟩
def L5{w u:World}(h:Bw w u){o:Obj}:Bw w (u.alloc o):=h.alloc h.size o
def OwnT.app{α:Type}{el:World->α->List Value->List Lf->Prop}{V:World}{xs:List α}{x:α}{c:List Value}{l:List Lf}(h:OwnT el ty sz B V v xs Ls)(cR:∀w w' x c l,el w x c l->(∀a∈l,w'.heap[a.b]?=w.heap[a.b]?)->el w' x c l)(hb:Bw V V3)(hx:el V3 x c l)(hc:c.length=sz)(hA:mL V.heap.size V3 l)(hB:B<=V.heap.size):∃row,V3.ownsRow B ty sz v xs.length row/\∀v' w9,w9.ownsRow B ty sz v' (xs.length+1) (row++c)->V3.grownBy w9 v.ownBlock->(∀g,v'.ownBlock=some g->v.ownBlock=some g\/V3.heap.size<=g)→
   OwnT el ty sz B w9 v' (xs++[x]) (Ls++[l])/\∃p c',v'=.S p (xs.length+1) c':=by
 have hl:=h.lt;obtain⟨cs,g1,g2,g3,g4,g5,g6,g7⟩:=h.below cR hb;refine⟨cs.flatten,g4,fun v' w9 dh hg lG=>?_⟩;have sn:=OwnT.snoc g1 g2 g3 g5 g6 g7 cR hx hc hA hB (fun a ha=>(hl.2 a ha).2) (fun b hb=>(hl.1 b hb).2) dh hg lG;refine⟨sn,?_⟩;obtain⟨p,c',e,-⟩:=sn.read;rw[ig]at e;exact⟨p,c',e⟩
def OwnT.Yr{α:Type}{el:World->α->List Value->List Lf->Prop}{sb:Nat}{w:World}{xs:List α}(h:OwnT el ty sz B w v xs Ls)(cR:∀w w' x c l,el w x c l->(∀a∈l,w'.heap[a.b]?=w.heap[a.b]?)->el w' x c l)(hs:sb<B)(j:Nat)(u:Value):OwnT el ty sz B (w.setCell ⟨sb,j,none⟩ u) v xs Ls:=
 h.keep (cR _ _) ai (fun b hb=>fy _ _ _ _ (by have:=(h.lt.1 b hb).1;simp;omega)) (fun a ha=>fy _ _ _ _ (by have:=(h.lt.2 a ha).1;simp;omega))
def kK.id(w:World)(i:Int):kK w (Qc i) [.U i,.I 0,.S none 0 0] []:=⟨none,0,rfl,⟨none,0,rfl,.inl rfl⟩,⟨none,0,[],rfl,rfl,rfl,.inl rfl⟩⟩
def nQ{w:World}{cs:List Value}{t:TypeId}:∀j u,cs[j]?=some u->(w.alloc (.cells cs.toArray t)).cell? ⟨w.heap.size,j,none⟩=some u:=fun j u hu=>(al.alloc w cs.toArray t).1 j u (by simpa using hu)
theorem IG(h:fI k o=none):∀j,k<=j->fI j o=none:=by
 intro j hj
 induction j with
 |zero=>rw[show k=0 by omega]at h;exact h
 |succ j ih=>
  by_cases e:k=j+1;{rw[<-e];exact h};{rw[fI,ih ae];rfl}
def MT(h:fI k o=some (ns,om))(h2:oc om=some (nd,Hf)):fI (k+1) o=some (ns++[nd],Hf):=by
 rw[fI,h];simp only[yi,h2,Cy]
def Bh(h:fI k o=some (ns,om))(h2:oc om=none):fI (k+1) o=none:=by
 rw[fI,h];simp only[yi,h2,Option.map_none]
def jE.snoc{w:World}{d:Int}(hk:l.length=k)(h:w.ownsRow B 28 1 v (k+1) (l.map (Value.int .u64)++[.U d])):jE B w v (l++[d]):=by
 unfold jE;rw[ig,ko,hk];exact h
def PU.nil(w:World)(M N:Nat):PU w M N (.S none 0 0) [] []:=⟨⟨none,0,rfl,.inl rfl⟩,⟨none,0,[],rfl,rfl,rfl,.inl rfl⟩,mL.nil _ _,fun a ha=>by simp at ha⟩
def qy.keep{w w':World}{n:Nat}(h:qy w R m n sh)(hk:∀b,b<=R->w'.heap[b]?=w.heap[b]?):qy w' R m n sh:=by
 obtain⟨h1,h2,p,c,⟨h3,h4⟩,h5,h6⟩:=h;have e:=aE (hk R ao);refine⟨h1,fun o=>(World.frozen?_of_block (hk R ao)).trans (h2 o),p,c,⟨(e 0).trans h3,(e 1).trans h4⟩,?_,h6⟩;rcases h5 with h5|⟨b,o,hb,hp,h5⟩;{exact .inl h5};{exact .inr ⟨b,o,hb,hp,fun i hi=>(aE (hk b ae) _).trans (h5 i hi)⟩}
def qy.below{w w':World}{n:Nat}(h:qy w R m n sh)(hb:Below B w w')(hR:R<B):qy w' R m n sh:=h.keep fun b hbR=>hb.block b (by omega)
def Kept.Td{w w':World}(h:Kept [blk R] w w')(hb:b<w.heap.size)(cg:b≠R):w'.heap[b]?=w.heap[b]?:=h.block b hb fun v hv e=>by
 simp only[yx]at hv;subst hv;simp[Value.ownBlock]at e;exact cg e.symm
def jE.db{w w':World}(h:jE B w v l)(hk:Kept [blk R] w w')(hR:R<B):jE B w' v l:=by
 refine⟨h.1,?_⟩;rcases h.2 with hn|⟨g,cap,cur,rfl,hb,hg,rest⟩;{exact .inl hn};{exact .inr ⟨g,cap,cur,rfl,hb,(hk.Td (EF.1 hg).1 ae).trans hg,rest⟩}
def OwnT.db{α:Type}{el:World->α->List Value->List Lf->Prop}{w w':World}{xs:List α}(h:OwnT el ty sz B w v xs Ls)(cR:∀w w' x c l,el w x c l->(∀a∈l,w'.heap[a.b]?=w.heap[a.b]?)->el w' x c l)(hk:Kept [blk R] w w')(hR:R<B):OwnT el ty sz B w' v xs Ls:=
 h.keep (cR _ _) hk.size (fun b hb=>hk.Td (h.lt.1 b hb).2 (by have:=(h.lt.1 b hb).1;omega)) (fun a ha=>hk.Td (h.lt.2 a ha).2 (by have:=(h.lt.2 a ha).1;omega))
def OwnT.cs5{α:Type}{el:World->α->List Value->List Lf->Prop}{xs:List α}{x:α}{c:List Value}{l:List Lf}(h:OwnT el ty sz B V3 v xs Ls)(cR:∀w w' x c l,el w x c l->(∀a∈l,w'.heap[a.b]?=w.heap[a.b]?)->el w' x c l)(hx:el V3 x c l)(hc:c.length=sz)(hA:mL M V3 l)(hB:B<=M)(hM:∀a∈Ls.flatten,a.b<M)(hvM:∀b,v.ownBlock=some b->b<M):∃row,V3.ownsRow B ty sz v xs.length row/\∀v' w9,w9.ownsRow B ty sz v' (xs.length+1) (row++c)->V3.grownBy w9 v.ownBlock->(∀g,v'.ownBlock=some g->v.ownBlock=some g\/V3.heap.size<=g)→
   OwnT el ty sz B w9 v' (xs++[x]) (Ls++[l])/\∃p c',v'=.S p (xs.length+1) c':=by
 obtain⟨cs,g1,g2,g3,g4,g5,g6,g7⟩:=h;refine⟨cs.flatten,g4,fun v' w9 dh hg lG=>?_⟩;have sn:=OwnT.snoc g1 g2 g3 g5 g6 g7 cR hx hc hA hB hM hvM dh hg lG;refine⟨sn,?_⟩;obtain⟨p,c',e,-⟩:=sn.read;rw[ig]at e;exact⟨p,c',e⟩
def PB.db{w w':World}(h:PB w M N v xs A)(hk:Kept [blk R] w w')(hR:R<M):PB w' M N v xs A:=
 have k:∀a∈A,w'.heap[a.b]?=w.heap[a.b]?:=fun a ha=>hk.Td (h.ap.vj.lt ha) (by have:=h.ap.lo a ha;omega)
 ⟨h.rd.dH h.lv k,h.cap,h.lv,h.ap.keep k,h.hi⟩
def PU.db{w w':World}(h:PU w M N v xs A)(hk:Kept [blk R] w w')(hR:R<M):PU w' M N v xs A:=
 have k:∀a∈A,w'.heap[a.b]?=w.heap[a.b]?:=fun a ha=>hk.Td (h.ap.vj.lt ha) (by have:=h.ap.lo a ha;omega)
 ⟨h.rd.dH h.lv k,h.lv,h.ap.keep k,h.hi⟩
def al.db{w w':World}(h:al w b vs)(hk:Kept [blk R] w w')(hb:b<w.heap.size)(cg:b≠R):al w' b vs:=
 ⟨fun i v hi=>(aE (hk.Td hb cg) _).trans (h.1 i v hi),fun o=>(World.frozen?_of_block (hk.Td hb cg)).trans (h.2 o)⟩
def Kept.Lp{w w1 w2:World}{row:Option Nat}(h:Kept [blk R] w w1)(hg:w1.grownBy w2 row)(hr:∀k,row=some k->w.heap.size<=k):Kept [blk R] w w2:=
 ⟨hg.os.trans h.os,hg.tape.trans h.tape,hg.output.trans h.output,fW h.size hg.size,fun k hk hv=>(hg.block k (kV hk h.size) (fun e=>by have:=hr k e.symm;omega)).trans (h.block k hk hv)⟩
def Kept.td{w w1:World}(h:Kept [blk R] w w1){a:Addr}(ha:w.heap.size<=a.block)(v:Value):Kept [blk R] w (w1.setCell a v):=
 h.Lp (aD w1 a v) fun k e=>by cases e;exact ha
def MW{n:Nat}{w:World}(h:qy w R m n sh)(hR:R<w.heap.size)(hb:aM m)(hl:n<=1048576){x:Int}(e:Hid (jk (m,sh)=(x,m',sh'))):Cp 103 #[.pointer (some ⟨R,0,none⟩)] w fun e w'=>e=.returned (.agg #[.U x,.I 0,.S none 0 0])/\qy w' R m' m'.length sh'/\Kept [blk R] w w':=by
 obtain⟨W,hW⟩:=au (w.alloc (.cells #[.U 0,.I 0,.S none 0 0] 86));have bW:=dO hW;have hC:al W w.heap.size [.U 0,.I 0,.S none 0 0]:=by rw[hW];exact al.alloc w #[.U 0,.I 0,.S none 0 0] _
 have zW:W.heap.size=w.heap.size+1:=by rw[hW];simp
 go_enter func103,ntmps103;go_wp2_with fail;rw[<-hW];clear hW;refine(eG (h.below bW hR) hb hl e).mono ?_;rintro r w1⟨rfl,oQ,jQ⟩;have C1:=hC.db jQ ae ae;have KK:=af ((Kept.dL (vs:=[blk R]) bW).trans jQ);have Cr:=af oQ;have r0:=C1.1 0 _ rfl;have r1:=C1.1 1 _ rfl;have r2:=C1.1 2 _ rfl;have rf:=C1.2;clear hC jQ oQ C1 h;go_wp2;refine fL (v:=.agg #[.U x,.I 0,.S none 0 0]) (by simp[results,results103,go_sem,r0,r1,r2]) rfl ⟨rfl,?_,?_⟩;{exact Cr.keep fun b hb=>by iterate 3 rw[fy _ _ _ _ bj]}
 {exact((KK.td ai _).td ai _).td ai _}
theorem ar3{n:Nat}{w:World}(h:qy w R m n sh)(hR:R<w.heap.size)(hb:Hid (aM m))(hl:n<=1048576)(e:Hid (lF jk (m,sh)=(xs,m',sh')))(eN:Hid (xs.length=N)):Cp 142 #[.pointer (some ⟨R,0,none⟩),.func (.func 101) #[.pointer (some ⟨R,0,none⟩)] #[]] w fun r w'=>∃p' c',r=.returned (.S p' N c')/\(jE w.heap.size w' ((.S p' N c')) xs)/\qy w' R m' m'.length sh'/\Kept [blk R] w w':=by
 obtain⟨iu,hiu,uz0,uz1,uz2⟩:=info_parts Tryz.infoU64;have Xh:m.length=n:=h.1;obtain⟨⟨x,m1,s1⟩,e1⟩:∃y,Hid (jk (m,sh)=y):=⟨_,bq⟩;have ok1:=ir (m,sh) (aa hb) (by rw[Xh];exact hl);rw[aa e1]at ok1;obtain⟨hx,aA,Jq,-⟩:=ok1;dsimp only at Jq;obtain⟨X,rfl⟩:∃v:Nat,x=(v:Int):=⟨x.toNat,by have:=hx.1;omega⟩;have hX:(X:Int)<18446744073709551616:=hx.2;have e2:Hid (vh jk X [] (m1,s1)=(xs,m',sh')):=by have:=aa e;rw[lF,aa e1]at this;exact this
 have mK:=af aA;clear hx aA;go_enter func142,ntmps142;go_wp2_with fail;refine(eG h hb hl e1).mono ?_;rintro r w1⟨rfl,oQ,jQ⟩;have Cr:=af oQ;have WT:=af jQ;clear oQ jQ h;go_wp2
 go_loopw[5,9](fun lv iv wr=>∃(i:Nat)(acc:LI)(k:Nat)(m2:LI)(s2:Bool)(n2:Nat)(p:OA)(c:Nat),i<=X/\lv=.S p k c/\iv=.U i/\k+n2<=1048576/\Hid (acc.length=k)/\Hid (m2.length=n2)/\Hid (vh jk (X-i) acc (m2,s2)=(xs,m',sh'))/\Hid (aM m2)/\Hid (qy wr R m2 n2 s2)/\Hid (jE w.heap.size wr ((.S p k c)) acc)/\Hid (Kept [blk R] w wr)) (fun _ iv _=>X-(intOf iv).toNat)
 exact⟨0,[],0,m1,s1,m1.length,none,0,gq _,rfl,rfl,ae,bq,bq,e2,mK,Cr,World.ownsRow_nil _ _ _ _,WT⟩;{
 clear Cr WT mK e2;obtain⟨i,acc,k,m2,s2,n2,p,c,hi,rfl,rfl,hkn,ek,Gg,e3,aF,kY,mP,qK⟩:=hrel;have Ry:=qK.size;by_cases aX:i<X;{
 have bu:=aP i X;have wi:IntKind.u64.wrap ((i:Int)+1)=((i+1:Nat):Int):=by rw[IntKind.wrap_u64];omega
 obtain⟨⟨d,m3,s3⟩,e4⟩:∃y,Hid (jk (m2,s2)=y):=⟨_,bq⟩;have ok3:=ir (m2,s2) (aa aF) (by show m2.length<=_;rw[aa Gg];omega);rw[aa e4]at ok3;obtain⟨-,bf,Dw,AD⟩:=ok3;dsimp only at Dw AD;rw[aa Gg]at Dw AD;have e5:Hid (vh jk (X-i-1+1) acc (m2,s2)=(xs,m',sh')):=by rw[show X-i-1+1=X-i by omega];exact e3
 have tG:=af bf;clear bf;go_wp2_with fail;refine(eG kY aF ae e4).mono ?_;rintro r w3⟨rfl,GJ,qZ⟩;have JB:=af (qK.trans qZ);have zI:=af GJ;have z3:=qZ.size;obtain⟨l3,f3,pr,cr,⟨g0,g1⟩,-⟩:=GJ;have O3:=af (mP.db qZ ae);clear qZ;cases s3 with
 |true=>
  clear AD;have e6:xs=[]/\m'=m3/\sh'=true:=by have:=aa e5;rw[vh,aa e4,bN rfl]at this;simp only[fO]at this;exact⟨this.1.symm,this.2.1.symm,this.2.2.symm⟩
  obtain⟨rfl,rfl,rfl⟩:=e6;have Lm:N=0:=eN.symm;subst Lm;go_wp2;go_ret;exact⟨none,0,rfl,World.ownsRow_nil _ _ _ _,zI,JB⟩
 |false=>
  have hl5:=AD rfl;clear AD;have e6:Hid (vh jk (X-(i+1)) (acc++[d]) (m3,false)=(xs,m',sh')):=by have:=aa e5;rw[vh,aa e4,bH ai]at this;exact this
  obtain⟨n3,en3⟩:∃k,Hid (m3.length=k):=⟨_,bq⟩;rw[aa en3]at hl5 Dw zI l3 g0;clear l3 g0;obtain⟨v3,kx⟩:=au (w3.alloc (.cells #[.U d] 28));have bf:=dO kx;have BS:∀i u,([.U d]:List Value)[i]?=some u->v3.cell? ⟨w3.heap.size,i,none⟩=some u:=by rw[kx];exact nQ
  have tF:=af BS;have z4:v3.heap.size=w3.heap.size+1:=by rw[kx];simp
  have OP:Hid (∀b,(Value.slice p k c).ownBlock=some b->w.heap.size<=b):=fun b eb=>(O3.lt b eb).1;have Gw:Hid (v3.ownsRow w.heap.size 28 1 (.S p k c) k (acc.map (Value.int .u64))):=by have:=O3.below bf;unfold jE at this;rw[aa ek]at this;exact this
  have R4:=af (zI.below bf ae);have K4:=af (JB.trans (Kept.dL bf));clear BS;go_wp2_with(at_builtin;rw[<-kx];refine cI rfl 91 rfl iu 1 underlying91 hiu uz0 uz1 uz2 rfl aU (.S p k c) rfl (aa Gw) (w3.heap.size) 1 1 [.U d] rfl rfl (aa tF) (fun u hu=>by simp at hu;subst hu;rfl) ic ae ae ?_);intro v' w9 dh hg yJ;have lG:∀g,v'.ownBlock=some g->(Value.slice p k c).ownBlock=some g\/v3.heap.size<=g:=fun g eg=>by have:=yJ g eg;rw[kx];simpa using this
  rw[<-kx]at hg;have sn:=jE.snoc ek dh;obtain⟨pN,cN,e9⟩:=sn.form;rw[ig,aa ek]at e9;subst e9;have SN:Hid (jE w.heap.size w9 (.S pN (k+1) cN) (acc++[d])):=sn;have K9:=af (K4.Lp hg (fun b eb=>aa OP b eb));have R9:=af (R4.keep fun b hbR=>hg.block b ae (fun eb=>by have:=aa OP b eb.symm;omega));have EK:Hid ((acc++[d]).length=k+1):=by show _=_;rw[ig,aa ek];rfl
  clear dh hg lG yJ sn kx bf g1 f3;go_wp2;go_roundw;exact⟨i+1,acc++[d],k+1,m3,false,n3,pN,cN,ae,rfl,by go_num,ae,EK,en3,e6,tG,R9,SN,K9⟩;exact bG};{
 have bu:=du i X;have eiX:X=i:=ae;have e6:xs=acc/\m'=m2/\sh'=s2:=by have:=aa e3;rw[show X-i=0 by omega,vh]at this;simp only[fO]at this;exact⟨this.1.symm,this.2.1.symm,this.2.2.symm⟩
 obtain⟨rfl,rfl,rfl⟩:=e6;have Ll:N=k:=eN.symm.trans ek;subst Ll;have R9:Hid (qy wr R m' m'.length sh'):=by rw[aa Gg];exact kY
 go_wp2;go_ret;exact⟨p,c,rfl,mP,R9,qK⟩}}
theorem ar4{n:Nat}{w:World}(h:qy w R m n sh)(hR:R<w.heap.size)(hb:Hid (aM m))(hl:n<=1048576){xs:List aR}(e:Hid (lF TD (m,sh)=(xs,m',sh')))(eN:Hid (xs.length=N)):Cp 102 #[.pointer (some ⟨R,0,none⟩),.func (.func 103) #[.pointer (some ⟨R,0,none⟩)] #[]] w fun r w'=>∃p' c',r=.returned (.S p' N c')/\(∃Ls,OwnT kK 86 3 w.heap.size w' ((.S p' N c')) xs Ls)/\qy w' R m' m'.length sh'/\Kept [blk R] w w':=by
 obtain⟨iu,hiu,uz0,uz1,uz2⟩:=info_parts Tryz.infoSes;have Xh:m.length=n:=h.1;obtain⟨⟨x,m1,s1⟩,e1⟩:∃y,Hid (jk (m,sh)=y):=⟨_,bq⟩;have ok1:=ir (m,sh) (aa hb) (by rw[Xh];exact hl);rw[aa e1]at ok1;obtain⟨hx,aA,Jq,-⟩:=ok1;dsimp only at Jq;obtain⟨X,rfl⟩:∃v:Nat,x=(v:Int):=⟨x.toNat,by have:=hx.1;omega⟩;have hX:(X:Int)<18446744073709551616:=hx.2;have e2:Hid (vh TD X [] (m1,s1)=(xs,m',sh')):=by have:=aa e;rw[lF,aa e1]at this;exact this
 have mK:=af aA;clear hx aA;go_enter func102,ntmps102;go_wp2_with fail;refine(eG h hb hl e1).mono ?_;rintro r w1⟨rfl,oQ,jQ⟩;have Cr:=af oQ;have WT:=af jQ;clear oQ jQ h;go_wp2
 go_loopw[5,9](fun lv iv wr=>∃(i:Nat)(acc:List aR)(k:Nat)(m2:LI)(s2:Bool)(n2:Nat)(p:OA)(c:Nat),i<=X/\lv=.S p k c/\iv=.U i/\k+n2<=1048576/\Hid (acc.length=k)/\Hid (m2.length=n2)/\Hid (vh TD (X-i) acc (m2,s2)=(xs,m',sh'))/\Hid (aM m2)/\Hid (qy wr R m2 n2 s2)/\Hid (∃Ls,OwnT kK 86 3 w.heap.size wr ((.S p k c)) acc Ls)/\Hid (Kept [blk R] w wr)) (fun _ iv _=>X-(intOf iv).toNat)
 exact⟨0,[],0,m1,s1,m1.length,none,0,gq _,rfl,rfl,ae,bq,bq,e2,mK,Cr,⟨[],OwnT.nil _ _ _ _ _⟩,WT⟩;{
 clear Cr WT mK e2;obtain⟨i,acc,k,m2,s2,n2,p,c,hi,rfl,rfl,hkn,ek,Gg,e3,aF,kY,mP,qK⟩:=hrel;have Ry:=qK.size;by_cases aX:i<X;{
 have bu:=aP i X;have wi:IntKind.u64.wrap ((i:Int)+1)=((i+1:Nat):Int):=by rw[IntKind.wrap_u64];omega
 obtain⟨⟨d,m3,s3⟩,e4⟩:∃y,Hid (TD (m2,s2)=y):=⟨_,bq⟩;have ok3:=Q5 (m2,s2) (aa aF) (by show m2.length<=_;rw[aa Gg];omega);rw[aa e4]at ok3;obtain⟨-,bf,Dw,AD⟩:=ok3;dsimp only at Dw AD;rw[aa Gg]at Dw AD;have e5:Hid (vh TD (X-i-1+1) acc (m2,s2)=(xs,m',sh')):=by rw[show X-i-1+1=X-i by omega];exact e3
 have tG:=af bf;clear bf;have e4n:Hid (jk (m2,s2)=(d.1,m3,s3)):=by
  have:=aa e4;rw[TD]at this;show _=_;simp only[fO]at this;rw[<-this.1,<-this.2]
  rfl
 have hd:d=Qc d.1:=by
  have:=aa e4;rw[TD]at this;simp only[fO]at this;rw[<-this.1]
  rfl
 obtain⟨y,ey⟩:=aI d.1;rw[ey]at e4n hd;have HD:=af hd;clear hd ey;go_wp2_with fail;refine(MW kY ae aF ae e4n).mono ?_;rintro r w3⟨rfl,GJ,qZ⟩;have JB:=af (qK.trans qZ);have zI:=af GJ;have z3:=qZ.size;have VW:qy (w3.alloc (.cells #[.U y,.I 0,.S none 0 0] 86)) R m3 m3.length s3:=GJ.below (ay.alloc ao _) ae;obtain⟨l3,f3,pr,cr,⟨g0,g1⟩,-⟩:=VW;obtain⟨Ls,hoT⟩:=aa mP;have O3:=af (hoT.db kK.keep qZ ae);have HLT:=af hoT.lt;clear hoT;clear GJ qZ;cases s3 with
 |true=>
  clear AD;have e6:xs=[]/\m'=m3/\sh'=true:=by have:=aa e5;rw[vh,aa e4,bN rfl]at this;simp only[fO]at this;exact⟨this.1.symm,this.2.1.symm,this.2.2.symm⟩
  obtain⟨rfl,rfl,rfl⟩:=e6;have Lm:N=0:=eN.symm;subst Lm;go_wp2;go_ret;exact⟨none,0,rfl,⟨[],OwnT.nil _ _ _ _ _⟩,zI.below (ay.alloc ao _) ae,JB.alloc _⟩
 |false=>
  have hl5:=AD rfl;clear AD;have e6:Hid (vh TD (X-(i+1)) (acc++[d]) (m3,false)=(xs,m',sh')):=by have:=aa e5;rw[vh,aa e4,bH ai]at this;exact this
  obtain⟨n3,en3⟩:∃k,Hid (m3.length=k):=⟨_,bq⟩;rw[aa en3]at hl5 Dw zI l3 g0;clear l3 g0;obtain⟨v3,kx⟩:=au ((w3.alloc (.cells #[.U y,.I 0,.S none 0 0] 86)).alloc (.cells #[.U y,.I 0,.S none 0 0] 86));have bf:Bw w3 v3:=by rw[kx];exact(ay.alloc ao _).alloc ai _
  have BS:∀i u,([.U y,.I 0,.S none 0 0]:List Value)[i]?=some u->v3.cell? ⟨w3.heap.size+1,i,none⟩=some u:=by have e0:(w3.alloc (.cells #[.U y,.I 0,.S none 0 0] 86)).heap.size=w3.heap.size+1:=ai;rw[kx,<-e0];exact nQ
  have tF:=af BS;have z4:v3.heap.size=w3.heap.size+2:=by rw[kx];simp
  have elx:kK v3 d [.U y,.I 0,.S none 0 0] []:=by rw[aa HD];exact kK.id v3 y
  have apx:mL w3.heap.size v3 []:=mL.nil _ _;obtain⟨row,oL,xh⟩:=O3.app kK.keep bf elx rfl apx ae;have OP:Hid (∀b,(Value.slice p k c).ownBlock=some b->w.heap.size<=b):=fun b eb=>(O3.lt.1 b eb).1;rw[aa ek]at oL xh;have To:=af xh;have Gw:=af oL;clear xh oL;have R4:=af (zI.below bf ae);have K4:=af (JB.trans (Kept.dL bf));clear BS;go_wp2_with(at_builtin;rw[<-kx];refine cI rfl 29 rfl iu 3 underlying29 hiu uz0 uz1 uz2 rfl aU (.S p k c) rfl (aa Gw) (w3.heap.size+1) 1 1 [.U y,.I 0,.S none 0 0] rfl rfl (aa tF) (fun u hu=>by simp at hu;rcases hu with rfl|rfl|rfl<;>rfl) ic ae ae ?_);intro v' w9 dh hg yJ;have lG:∀g,v'.ownBlock=some g->(Value.slice p k c).ownBlock=some g\/v3.heap.size<=g:=fun g eg=>by have:=yJ g eg;rw[kx];simpa using this
  rw[<-kx]at hg;obtain⟨sn,pN,cN,rfl⟩:=aa To v' w9 dh hg lG;have SN:Hid (∃Ls,OwnT kK 86 3 w.heap.size w9 ((.S pN (k+1) cN)) (acc++[d]) Ls):=⟨_,sn⟩;have K9:=af (K4.Lp hg (fun b eb=>aa OP b eb));have R9:=af (R4.keep fun b hbR=>hg.block b ae (fun eb=>by have:=aa OP b eb.symm;omega));have EK:Hid ((acc++[d]).length=k+1):=by show _=_;rw[ig,aa ek];rfl
  clear dh hg lG yJ sn kx bf g1 f3;go_wp2;go_roundw;exact⟨i+1,acc++[d],k+1,m3,false,n3,pN,cN,ae,rfl,by go_num,ae,EK,en3,e6,tG,R9,SN,K9⟩;exact bG};{
 have bu:=du i X;have eiX:X=i:=ae;have e6:xs=acc/\m'=m2/\sh'=s2:=by have:=aa e3;rw[show X-i=0 by omega,vh]at this;simp only[fO]at this;exact⟨this.1.symm,this.2.1.symm,this.2.2.symm⟩
 obtain⟨rfl,rfl,rfl⟩:=e6;have Ll:N=k:=eN.symm.trans ek;subst Ll;have R9:Hid (qy wr R m' m'.length sh'):=by rw[aa Gg];exact kY
 go_wp2;go_ret;exact⟨p,c,rfl,mP,R9,qK⟩}}
def Vy{n:Nat}{w:World}(h:qy w R m n sh)(hR:R<w.heap.size)(hb:Hid (aM m))(hl:n<=1048576){d:aB}(e:Hid (JV (m,sh)=(d,m',sh'))):Cp 105 #[.pointer (some ⟨R,0,none⟩)] w fun r w'=>∃(pP:OA)(NP cP:Nat)(pV:OA)(NV cV:Nat)(ow mo:Int)(pH:OA)(NH cH:Nat)(ep ge:Int)(Ae:List Lf),r=.returned (.agg #[.S pP NP cP,.S pV NV cV,.U ow,.I mo,.S pH NH cH,.U ep,.U ge,.S none 0 0])/\jj w' d [.S pP NP cP,.S pV NV cV,.U ow,.I mo,.S pH NH cH,.U ep,.U ge,.S none 0 0] Ae/\mL w.heap.size w' Ae/\qy w' R m' m'.length sh'/\Kept [blk R] w w':=by
 have Xh:m.length=n:=h.1;obtain⟨⟨P,m1,s1⟩,E1⟩:∃y,Hid (sT m sh=y):=⟨_,bq⟩;obtain⟨⟨V,m2,s2⟩,E2⟩:∃y,Hid (sT m1 s1=y):=⟨_,bq⟩;obtain⟨⟨ow,m3,s3⟩,E3⟩:∃y,Hid (jk (m2,s2)=y):=⟨_,bq⟩;obtain⟨⟨mo,m4,s4⟩,E4⟩:∃y,Hid (sB m3 s3=y):=⟨_,bq⟩;obtain⟨⟨H,m5,s5⟩,E5⟩:∃y,Hid (lF jk (m4,s4)=y):=⟨_,bq⟩;obtain⟨⟨ep,m6,s6⟩,E6⟩:∃y,Hid (jk (m5,s5)=y):=⟨_,bq⟩;obtain⟨⟨ge,m7,s7⟩,E7⟩:∃y,Hid (jk (m6,s6)=y):=⟨_,bq⟩;have ED:Hid (d=⟨P,V,ow,mo,H,ep,ge,[]⟩/\m'=m7/\sh'=s7):=by have:=aa e;rw[JV]at this;simp only[aa E1,aa E2,aa E3,aa E4,aa E5,aa E6,aa E7,fO]at this;exact⟨this.1.symm,this.2.1.symm,this.2.2.symm⟩
 have k1:=Aj (sh:=sh) hb;rw[aa E1]at k1;obtain⟨-,c1,-,d1⟩:=k1;dsimp only at c1 d1;have k2:=Aj (sh:=s1) c1;rw[aa E2]at k2;obtain⟨-,c2,-,d2⟩:=k2;dsimp only at c2 d2;have k3:=ir (m2,s2) c2 (by dsimp only;omega);rw[aa E3]at k3;obtain⟨-,c3,d3,-⟩:=k3;dsimp only at c3 d3;have k4:=Al (sh:=s3) c3;rw[aa E4]at k4;obtain⟨c4,-,-,d4⟩:=k4;dsimp only at c4 d4;have k5:=Jk ir (s:=(m4,s4)) c4 (by dsimp only;omega);rw[aa E5]at k5;obtain⟨-,c5,d5,-⟩:=k5;dsimp only at c5 d5;have k6:=ir (m5,s5) c5 (by dsimp only;omega);rw[aa E6]at k6;obtain⟨-,c6,d6,-⟩:=k6;dsimp only at c6 d6;have B1:=af c1;have B2:=af c2;have B3:=af c3;have B4:=af c4;have B5:=af c5;have B6:=af c6;have g1:m1.length<=1048576:=ae;have g2:m2.length<=1048576:=ae;have g3:m3.length<=1048576:=ae;have g4:m4.length<=1048576:=ae;have g5:m5.length<=1048576:=ae;have g6:m6.length<=1048576:=ae;clear c1 c2 c3 c4 c5 c6 d1 d2 d3 d4 d5 d6 Xh;obtain⟨NP,eP⟩:∃k,Hid (P.length=k):=⟨_,bq⟩;obtain⟨NV,eV⟩:∃k,Hid (V.length=k):=⟨_,bq⟩;obtain⟨NH,eH⟩:∃k,Hid (H.length=k):=⟨_,bq⟩;obtain⟨W,hW⟩:=au (w.alloc (.cells #[.S none 0 0,.S none 0 0,.U 0,.I 0,.S none 0 0,.U 0,.U 0,.S none 0 0] 93));have bW:=dO hW;have C0:Hid (al W w.heap.size [.S none 0 0,.S none 0 0,.U 0,.I 0,.S none 0 0,.U 0,.U 0,.S none 0 0]):=by show al _ _ _;rw[hW];exact al.alloc w #[.S none 0 0,.S none 0 0,.U 0,.I 0,.S none 0 0,.U 0,.U 0,.S none 0 0] _
 have zW:W.heap.size=w.heap.size+1:=by rw[hW];simp
 have R0:=af (h.below bW hR);have K0:=af (Kept.dL (vs:=[blk R]) bW);go_enter func105,ntmps105;go_wp2_with fail;rw[<-hW];clear hW h bW;refine(DQ (R:=R) (m:=m) (n:=n) (sh:=sh) R0 hb hl ae (x:=P) (m':=m1) (sh':=s1) E1 (N:=NP) eP).mono ?_;rintro z9 y1⟨pP,cP,rfl,oP,Hw,jQ⟩;obtain⟨lP,fP⟩:=Own.pb oP;have FP1:=af fP;have C1:=af (C0.db jQ ae ae);have K1:=af (K0.trans jQ);have R1:=af Hw;have z1:=jQ.size;clear jQ Hw C0 K0 R0  oP fP;go_wp2_with fail;refine(DQ (R:=R) (m:=m1) (n:=m1.length) (sh:=s1) R1 B1 g1 ae (x:=V) (m':=m2) (sh':=s2) E2 (N:=NV) eV).mono ?_;rintro z9 y2⟨pV,cV,rfl,oV',kY,qK⟩;obtain⟨lV,fV⟩:=Own.pb oV';have FV2:=af fV;have C2:=af (C1.db qK ae ae);have K2:=af (K1.trans qK);have R2:=af kY;have z2:=qK.size;have FP2:=af (FP1.db qK ae);clear qK kY C1 K1 R1 FP1 oV' fV;go_wp2_with fail;refine(eG (R:=R) (m:=m2) (n:=m2.length) (sh:=s2) R2 B2 g2 (x:=ow) (m':=m3) (sh':=s3) E3).mono ?_;rintro z9 y3⟨rfl,GJ,qZ⟩;have C3:=af (C2.db qZ ae ae);have K3:=af (K2.trans qZ);have R3:=af GJ;have z3:=qZ.size;have FP3:=af (FP2.db qZ ae);have FV3:=af (FV2.db qZ ae);clear qZ GJ C2 K2 R2 FP2 FV2;go_wp2_with fail;refine(Ah (R:=R) (m:=m3) (n:=m3.length) (sh:=s3) R3 B3 g3 (x:=mo) (m':=m4) (sh':=s4) E4).mono ?_;rintro z9 y4⟨rfl,VW,Z7⟩;have C4:=af (C3.db Z7 ae ae);have K4:=af (K3.trans Z7);have R4:=af VW;have z4:=Z7.size;have FP4:=af (FP3.db Z7 ae);have FV4:=af (FV3.db Z7 ae);clear Z7 VW C3 K3 R3 FP3 FV3;go_wp2_with fail;refine(ar3 (R:=R) (m:=m4) (n:=m4.length) (sh:=s4) R4 ae B4 g4 (xs:=H) (m':=m5) (sh':=s5) E5 (N:=NH) eH).mono ?_;rintro z9 y5⟨pH,cH,rfl,oH,hr5,Xk⟩;obtain⟨lH,fH⟩:=jE.pu oH;have FH5:=af fH;have C5:=af (C4.db Xk ae ae);have K5:=af (K4.trans Xk);have R5:=af hr5;have z5:=Xk.size;have FP5:=af (FP4.db Xk ae);have FV5:=af (FV4.db Xk ae);clear Xk hr5 C4 K4 R4 FP4 FV4 oH fH;go_wp2_with fail;refine(eG (R:=R) (m:=m5) (n:=m5.length) (sh:=s5) R5 B5 g5 (x:=ep) (m':=m6) (sh':=s6) E6).mono ?_;rintro z9 y6⟨rfl,hr6,hk6⟩;have C6:=af (C5.db hk6 ae ae);have K6:=af (K5.trans hk6);have R6:=af hr6;have z6:=hk6.size;have FP6:=af (FP5.db hk6 ae);have FV6:=af (FV5.db hk6 ae);have FH6:=af (FH5.db hk6 ae);clear hk6 hr6 C5 K5 R5 FP5 FV5 FH5;go_wp2_with fail;refine(eG (R:=R) (m:=m6) (n:=m6.length) (sh:=s6) R6 B6 g6 (x:=ge) (m':=m7) (sh':=s7) E7).mono ?_;rintro z9 y7⟨rfl,hr7,hk7⟩;have C7:=af (C6.db hk7 ae ae);have K7:=af (K6.trans hk7);have R7:=af hr7;have z7:=hk7.size;have FP7:=af (FP6.db hk7 ae);have FV7:=af (FV6.db hk7 ae);have FH7:=af (FH6.db hk7 ae);clear hk7 hr7 C6 K6 R6 FP6 FV6 FH6;have r0:=C7.1 0 _ rfl;have r1:=C7.1 1 _ rfl;have r2:=C7.1 2 _ rfl;have r3:=C7.1 3 _ rfl;have r4:=C7.1 4 _ rfl;have r5:=C7.1 5 _ rfl;have r6:=C7.1 6 _ rfl;have r7:=C7.1 7 _ rfl;have rf:=C7.2;go_wp2;obtain⟨Z,hZ⟩:=au ((((((((y7.setCell ⟨w.heap.size,0,none⟩ (.S pP NP cP)).setCell ⟨w.heap.size,1,none⟩ (.S pV NV cV)).setCell ⟨w.heap.size,2,none⟩ (.U ow)).setCell ⟨w.heap.size,3,none⟩ (.I mo)).setCell ⟨w.heap.size,4,none⟩ (.S pH NH cH)).setCell ⟨w.heap.size,5,none⟩ (.U ep)).setCell ⟨w.heap.size,6,none⟩ (.U ge)).setCell ⟨w.heap.size,7,none⟩ (.S none 0 0));have Xj:∀b,b≠w.heap.size->Z.heap[b]?=y7.heap[b]?:=fun b hb=>by
  rw[hZ]
  iterate 8 rw[fy _ _ _ _ hb]
 obtain⟨ed,em,es⟩:=aa ED;subst em es;refine fL (v:=.agg #[.S pP NP cP,.S pV NV cV,.U ow,.I mo,.S pH NH cH,.U ep,.U ge,.S none 0 0]) (by simp[results,results105,go_sem,r0,r1,r2,r3,r4,r5,r6,r7]) rfl ?_;rw[<-hZ];have k0:=FP7.xk (z0:=w.heap.size) ae Xj;have k1:=FV7.xk (z0:=w.heap.size) ae Xj;have k4:=FH7.xk (z0:=w.heap.size) ae Xj;rw[<-aa eP]at k0;rw[<-aa eV]at k1;rw[<-aa eH]at k4;obtain⟨en,apn⟩:=jj.mk4 (nd:=⟨P,V,ow,mo,H,ep,ge,[]⟩) (B:=w.heap.size) k0 k1 k4 (PU.nil Z y7.heap.size y7.heap.size) ae ae ae ae ae ae ae ae ae ae;dsimp only at en;rw[aa eP,aa eV,aa eH]at en;rw[ed];refine⟨_,_,_,_,_,_,_,_,_,_,_,_,_,_,rfl,en,apn,R7.keep fun b hb=>Xj b ae,?_⟩;rw[hZ];exact(((((((K7.td ai _).td ai _).td ai _).td ai _).td ai _).td ai _).td ai _).td ai _
theorem ar5{n:Nat}{w:World}(h:qy w R m n sh)(hR:R<w.heap.size)(hb:Hid (aM m))(hl:n<=1048576){xs:List aB}(e:Hid (lF JV (m,sh)=(xs,m',sh')))(eN:Hid (xs.length=N)):Cp 104 #[.pointer (some ⟨R,0,none⟩),.func (.func 105) #[.pointer (some ⟨R,0,none⟩)] #[]] w fun r w'=>∃p' c',r=.returned (.S p' N c')/\(∃Ls,OwnT jj 93 8 w.heap.size w' ((.S p' N c')) xs Ls)/\qy w' R m' m'.length sh'/\Kept [blk R] w w':=by
 obtain⟨iu,hiu,uz0,uz1,uz2⟩:=info_parts Tryz.infoNod;have Xh:m.length=n:=h.1;obtain⟨⟨x,m1,s1⟩,e1⟩:∃y,Hid (jk (m,sh)=y):=⟨_,bq⟩;have ok1:=ir (m,sh) (aa hb) (by rw[Xh];exact hl);rw[aa e1]at ok1;obtain⟨hx,aA,Jq,-⟩:=ok1;dsimp only at Jq;obtain⟨X,rfl⟩:∃v:Nat,x=(v:Int):=⟨x.toNat,by have:=hx.1;omega⟩;have hX:(X:Int)<18446744073709551616:=hx.2;have e2:Hid (vh JV X [] (m1,s1)=(xs,m',sh')):=by have:=aa e;rw[lF,aa e1]at this;exact this
 have mK:=af aA;clear hx aA;go_enter func104,ntmps104;go_wp2_with fail;refine(eG h hb hl e1).mono ?_;rintro r w1⟨rfl,oQ,jQ⟩;have Cr:=af oQ;have WT:=af jQ;clear oQ jQ h;go_wp2
 go_loopw[5,9](fun lv iv wr=>∃(i:Nat)(acc:List aB)(k:Nat)(m2:LI)(s2:Bool)(n2:Nat)(p:OA)(c:Nat),i<=X/\lv=.S p k c/\iv=.U i/\k+n2<=1048576/\Hid (acc.length=k)/\Hid (m2.length=n2)/\Hid (vh JV (X-i) acc (m2,s2)=(xs,m',sh'))/\Hid (aM m2)/\Hid (qy wr R m2 n2 s2)/\Hid (∃Ls,OwnT jj 93 8 w.heap.size wr ((.S p k c)) acc Ls)/\Hid (Kept [blk R] w wr)) (fun _ iv _=>X-(intOf iv).toNat)
 exact⟨0,[],0,m1,s1,m1.length,none,0,gq _,rfl,rfl,ae,bq,bq,e2,mK,Cr,⟨[],OwnT.nil _ _ _ _ _⟩,WT⟩;{
 clear Cr WT mK e2;obtain⟨i,acc,k,m2,s2,n2,p,c,hi,rfl,rfl,hkn,ek,Gg,e3,aF,kY,mP,qK⟩:=hrel;have Ry:=qK.size;by_cases aX:i<X;{
 have bu:=aP i X;have wi:IntKind.u64.wrap ((i:Int)+1)=((i+1:Nat):Int):=by rw[IntKind.wrap_u64];omega
 obtain⟨⟨d,m3,s3⟩,e4⟩:∃y,Hid (JV (m2,s2)=y):=⟨_,bq⟩;have ok3:=Q6 (m2,s2) (aa aF) (by show m2.length<=_;rw[aa Gg];omega);rw[aa e4]at ok3;obtain⟨-,bf,Dw,AD⟩:=ok3;dsimp only at Dw AD;rw[aa Gg]at Dw AD;have e5:Hid (vh JV (X-i-1+1) acc (m2,s2)=(xs,m',sh')):=by rw[show X-i-1+1=X-i by omega];exact e3
 have tG:=af bf;clear bf;go_wp2_with fail;refine(Vy kY ae aF ae e4).mono ?_;rintro r w3⟨pP,NP,cP,pV,NV,cV,ow,mo,pH,NH,cH,ep,ge,Ae,rfl,eln,GW,GJ,qZ⟩;have EE:=af (ah eln (ah jW GW));clear eln GW;have JB:=af (qK.trans qZ);have zI:=af GJ;have z3:=qZ.size;have VW:qy (w3.alloc (.cells #[.S pP NP cP,.S pV NV cV,.U ow,.I mo,.S pH NH cH,.U ep,.U ge,.S none 0 0] 93)) R m3 m3.length s3:=GJ.below (ay.alloc ao _) ae;obtain⟨l3,f3,pr,cr,⟨g0,g1⟩,-⟩:=VW;obtain⟨Ls,hoT⟩:=aa mP;have O3:=af (hoT.db jj.keep qZ ae);have HLT:=af hoT.lt;clear hoT;clear GJ qZ;cases s3 with
 |true=>
  clear AD;have e6:xs=[]/\m'=m3/\sh'=true:=by have:=aa e5;rw[vh,aa e4,bN rfl]at this;simp only[fO]at this;exact⟨this.1.symm,this.2.1.symm,this.2.2.symm⟩
  obtain⟨rfl,rfl,rfl⟩:=e6;have Lm:N=0:=eN.symm;subst Lm;go_wp2;go_ret;exact⟨none,0,rfl,⟨[],OwnT.nil _ _ _ _ _⟩,zI.below (ay.alloc ao _) ae,JB.alloc _⟩
 |false=>
  have hl5:=AD rfl;clear AD;have e6:Hid (vh JV (X-(i+1)) (acc++[d]) (m3,false)=(xs,m',sh')):=by have:=aa e5;rw[vh,aa e4,bH ai]at this;exact this
  obtain⟨n3,en3⟩:∃k,Hid (m3.length=k):=⟨_,bq⟩;rw[aa en3]at hl5 Dw zI l3 g0;clear l3 g0;obtain⟨v3,kx⟩:=au ((w3.alloc (.cells #[.S pP NP cP,.S pV NV cV,.U ow,.I mo,.S pH NH cH,.U ep,.U ge,.S none 0 0] 93)).alloc (.cells #[.S pP NP cP,.S pV NV cV,.U ow,.I mo,.S pH NH cH,.U ep,.U ge,.S none 0 0] 93));have bf:Bw w3 v3:=by rw[kx];exact(ay.alloc ao _).alloc ai _
  have BS:∀i u,([.S pP NP cP,.S pV NV cV,.U ow,.I mo,.S pH NH cH,.U ep,.U ge,.S none 0 0]:List Value)[i]?=some u->v3.cell? ⟨w3.heap.size+1,i,none⟩=some u:=by have e0:(w3.alloc (.cells #[.S pP NP cP,.S pV NV cV,.U ow,.I mo,.S pH NH cH,.U ep,.U ge,.S none 0 0] 93)).heap.size=w3.heap.size+1:=ai;rw[kx,<-e0];exact nQ
  have tF:=af BS;have z4:v3.heap.size=w3.heap.size+2:=by rw[kx];simp
  have kE:∀a∈Ae,v3.heap[a.b]?=w3.heap[a.b]?:=fun a ha=>bf.block _ (EE.2.2.vj.lt ha);have elx:jj v3 d [.S pP NP cP,.S pV NV cV,.U ow,.I mo,.S pH NH cH,.U ep,.U ge,.S none 0 0] Ae:=jj.keep _ _ _ _ _ EE.1 kE;have apx:mL wr.heap.size v3 Ae:=EE.2.2.keep kE;obtain⟨row,oL,xh⟩:=(O3.below jj.keep bf).cs5 jj.keep elx rfl apx ae (fun a ha=>(HLT.2 a ha).2) (fun b eb=>(HLT.1 b eb).2);have OP:Hid (∀b,(Value.slice p k c).ownBlock=some b->w.heap.size<=b):=fun b eb=>(O3.lt.1 b eb).1;rw[aa ek]at oL xh;have To:=af xh;have Gw:=af oL;clear xh oL;have R4:=af (zI.below bf ae);have K4:=af (JB.trans (Kept.dL bf));clear BS;go_wp2_with(at_builtin;rw[<-kx];refine cI rfl 30 rfl iu 8 underlying30 hiu uz0 uz1 uz2 rfl aU (.S p k c) rfl (aa Gw) (w3.heap.size+1) 1 1 [.S pP NP cP,.S pV NV cV,.U ow,.I mo,.S pH NH cH,.U ep,.U ge,.S none 0 0] rfl rfl (aa tF) (fun u hu=>by simp at hu;rcases hu with rfl|rfl|rfl|rfl|rfl|rfl|rfl|rfl<;>rfl) ic ae ae ?_);intro v' w9 dh hg yJ;have lG:∀g,v'.ownBlock=some g->(Value.slice p k c).ownBlock=some g\/v3.heap.size<=g:=fun g eg=>by have:=yJ g eg;rw[kx];simpa using this
  rw[<-kx]at hg;obtain⟨sn,pN,cN,rfl⟩:=aa To v' w9 dh hg lG;have SN:Hid (∃Ls,OwnT jj 93 8 w.heap.size w9 ((.S pN (k+1) cN)) (acc++[d]) Ls):=⟨_,sn⟩;have K9:=af (K4.Lp hg (fun b eb=>aa OP b eb));have R9:=af (R4.keep fun b hbR=>hg.block b ae (fun eb=>by have:=aa OP b eb.symm;omega));have EK:Hid ((acc++[d]).length=k+1):=by show _=_;rw[ig,aa ek];rfl
  clear dh hg lG yJ sn kx bf g1 f3;go_wp2;go_roundw;exact⟨i+1,acc++[d],k+1,m3,false,n3,pN,cN,ae,rfl,by go_num,ae,EK,en3,e6,tG,R9,SN,K9⟩;exact bG};{
 have bu:=du i X;have eiX:X=i:=ae;have e6:xs=acc/\m'=m2/\sh'=s2:=by have:=aa e3;rw[show X-i=0 by omega,vh]at this;simp only[fO]at this;exact⟨this.1.symm,this.2.1.symm,this.2.2.symm⟩
 obtain⟨rfl,rfl,rfl⟩:=e6;have Ll:N=k:=eN.symm.trans ek;subst Ll;have R9:Hid (qy wr R m' m'.length sh'):=by rw[aa Gg];exact kY
 go_wp2;go_ret;exact⟨p,c,rfl,mP,R9,qK⟩}}
def VG{c n:Nat}{l:List aB}(en:Hid (l.length=n)){w:World}(h:qz w (.S p n c) l)(hn:n<=900)(hu:Hid (UZ ss l))(eN:Hid ((tK nM l).length=N))(hN:N<=4194304):Cp 148 #[.S p n c,.func (.func 149) #[] #[]] w fun e w'=>∃p' c',e=.returned (.S p' N c')/\Own w.heap.size w' (.S p' N c') (tK nM l)/\Bw w w':=by
 obtain⟨ib,hib,nO,iL,ju⟩:=info_parts Tryz.infoSl;have HR:=af fun(w':World)(hb:Bw w w')=>h.below hb;clear h;have wn:IntKind.u64.wrap (n:Int)=(n:Int):=by rw[IntKind.wrap_u64];omega
 go_enter func148,ntmps148;go_wp2_with fail;refine(iQ ae).mono ?_;rintro r w1⟨p1,c1,rfl,o1,b1⟩;obtain⟨Ls0,hP⟩:=qU.one o1 b1.size;obtain⟨v0,oK⟩:=au (w1.alloc (.cells #[.S p1 (vi n).length c1] 22));have hb0:Bw w v0:=by rw[oK];exact b1.alloc b1.size _
 rw[<-oK]at hP;have HP:=af hP;clear hP o1;generalize(vi n).length=M at*;go_wp2;rw[<-oK];clear oK b1
 go_loopw[5,15](fun pv iv wr=>∃(k:Nat)(p2:OA)(c2:Nat)(Ls:List (List Lf)),k<=n/\pv=.S p2 (k+1) c2/\iv=.I k/\Hid (qU w.heap.size wr (.S p2 (k+1) c2) (vi n::(l.take k).map nM) Ls)/\Bw w wr) (fun _ iv _=>n-(intOf iv).toNat)
 exact⟨0,_,_,_,gq _,rfl,rfl,HP,hb0⟩;{
 obtain⟨k,p2,c2,Ls,hk,rfl,rfl,ho,aG⟩:=hrel;by_cases aX:k<n;{
 have bu:=aP k n;have dA:k<l.length:=by rw[aa en];exact aX
 obtain⟨nd,hy⟩:∃y,l[k]?=some y:=⟨_,aO dA⟩;have hi:=hu.d nd (aS hy);have hlen:=(Kk hu.w nd (aS hy)).1;obtain⟨b,o,rfl,PP,PV,PH,PU,Xg⟩:∃b o,p=some ⟨b,o,none⟩/\∃P V H U,qV wr b (o+k*8) nd P V H U:=by obtain⟨p',c',ev,hd⟩:=aa HR _ aG;simp only[dU]at ev;obtain⟨rfl,-,-⟩:=ev;rcases hd with h0|⟨b,o,h1,h2⟩;{rw[h0]at dA;simp at dA};{exact⟨b,o,h1,h2 k _ hy⟩}
 obtain⟨pA,cA,nA,rfl,eA⟩:=Xg.r0.iB;obtain⟨pB,cB,nB,rfl,eB⟩:=Xg.r1.iB;obtain⟨pD,cD,nD,rfl,eD⟩:=Xg.r4.iB;obtain⟨pU,cU,nU,rfl,-⟩:=Xg.r7.iB;obtain⟨qL,iD,js,Cb,GM,yK,uY,hc7,q0,q1,q4,-,-⟩:=Xg;have QQ:=af (ah q0 (ah q1 q4));obtain⟨⟨j1,j2,j3⟩,j4,j5,j6,j7,j8⟩:=hi;rw[aa eA]at j1;rw[aa eB]at j2;rw[aa eD]at j3;have J8:=af j8;obtain⟨ow,Wr⟩:∃v:Nat,nd.owner=(v:Int):=⟨nd.owner.toNat,ae⟩;obtain⟨ep,eep⟩:∃v:Nat,nd.aJ=(v:Int):=⟨nd.aJ.toNat,ae⟩;obtain⟨ge,ege⟩:∃v:Nat,nd.gen=(v:Int):=⟨nd.gen.toNat,ae⟩;obtain⟨mo,emo⟩:∃v:Int,nd.mode=v:=⟨_,rfl⟩;rw[Wr]at js j5;rw[eep]at yK j6;rw[ege]at uY j7;rw[emo]at Cb j4;obtain⟨M3,eM3⟩:∃M,Hid ((nM nd).length=M):=⟨_,bq⟩;have eNB:Hid (nM nd=W6 nd.path nd.value ow mo nd.holders ep ge):=by show _=_;rw[nM,Wr,eep,ege,emo];rfl
 have cp0:Hid ((W6 nd.path nd.value ow mo nd.holders ep ge).length=M3):=by show _=_;rw[<-aa eNB];exact aa eM3
 rw[aa eM3]at hlen;clear q0 q1 q4 j8 Wr eep ege emo;have HY:=af hy;clear dA hy;have wk:IntKind.i64.wrap ((k:Int)+1)=((k+1:Nat):Int):=by rw[ni _ ae];omega
 go_wp2_with fail;obtain⟨X,hX⟩:=au (wr.alloc (.cells #[.S pA nA cA,.S pB nB cB,.U ow,.I mo,.S pD nD cD,.U ep,.U ge,.S pU nU cU] 93));have GN:=dO hX;have mP:=af (ho.below xl.keep GN);have aa8:=aj aG GN;rw[<-hX];refine(Kh eA eB eD (QQ.1.below GN) (QQ.2.1.below GN) (QQ.2.2.below GN) ae ae ae J8 ae ae ae j4 cp0 ae).mono ?_;clear hX ho aG GN;rintro r w3⟨p3,c3,rfl,o3,bf⟩;rw[<-aa eNB]at o3;have b3:=aj aa8 bf;have hA:Bw w3 (w3.alloc (.cells #[.S p3 M3 c3] 22)):=ay.alloc ao _;have OZ:=mP.below xl.keep (aj bf hA);have zt:=mP.lt;obtain⟨lb,q1,q2,-,q4⟩:=vV (kd:=.u8) (Own.below o3 hA);have elz:xl (w3.alloc (.cells #[.S p3 M3 c3] 22)) (nM nd) [.S p3 M3 c3] lb:=by have z1:=(Own.below o3 hA).rd;have z2:=q1;rw[<-aa eM3]at z1 z2⊢;exact⟨p3,c3,rfl,z1,z2⟩
 obtain⟨cs,g1,g2,g3,g4,g5,g6,g7⟩:=id OZ;have mG:(vi n::(l.take k).map nM).length=k+1:=by rw[iU,fe,pK,aa en];omega
 rw[mG]at g4;have z3:=bf.size;have zr:=aa8.size;have EL:=af elz;have Q2:=af q2;have GG:=af (ah g1 (ah g2 (ah g3 (ah g5 (ah g6 g7)))));have Gx:=af zt;have LX:=af mG;clear qL iD js Cb GM yK uY hc7 o3 OZ q1 q2 q4 elz g1 g2 g3 g5 g6 g7 zt mG mP;have hcZ:∀j u,[Value.slice p3 M3 c3][j]?=some u->(w3.alloc (.cells #[.S p3 M3 c3] 22)).cell? ⟨w3.heap.size,j,none⟩=some u:=fun j u hu=>by have:=(al.alloc w3 #[.S p3 M3 c3] 22).1 j u (by simpa using hu);exact this
 go_wp2_with(at_builtin;refine cI rfl 59 rfl ib 1 underlying59 hib nO iL ju rfl aU (.S p2 (k+1) c2) rfl g4 w3.heap.size 1 1 [.S p3 M3 c3] rfl rfl hcZ (fun u hu=>by simp at hu;subst hu;rfl) ic ae bj ?_);intro v' w9 dh hg lG;obtain⟨p9,c9,rfl⟩:∃p9 c9,v'=.S p9 (k+1+1) c9:=by rcases dh.2 with⟨rfl,h0⟩|⟨g,cap,cur,rfl,-⟩;{omega};{exact⟨_,_,rfl⟩}
 obtain⟨g1,g2,g3,g5,g6,g7⟩:=aa GG;have zt:=aa Gx;have BM:w9.ownsRow w.heap.size 22 1 (.S p9 (k+1+1) c9) ((vi n::(l.take k).map nM).length+1) (cs.flatten++[.S p3 M3 c3]):=by rw[aa LX];exact dh
 have sn:=OwnT.snoc g1 g2 g3 g5 g6 g7 xl.keep EL rfl Q2 ae (fun a ha=>(zt.2 a ha).2) (fun b hb=>(zt.1 b hb).2) BM hg (fun g sU=>by have:=lG g sU;simpa using this)
 have eL:(vi n::(l.take k).map nM)++[nM nd]=vi n::(l.take (k+1)).map nM:=by rw[ng,aa HY,ko];simp
 rw[eL]at sn;have vI:Bw w w9:=(b3.alloc b3.size _).grown hg bj (fun b hb=>(zt.1 b hb).1);have SN:=af sn;clear sn eL dh BM hg lG g1 g2 g3 g4 g5 g6 g7 zt hcZ GG EL Q2;go_wp2;go_roundw;exact⟨k+1,_,_,_,ae,rfl,by go_num,SN,vI⟩;exact bG};{
 have bu:=du k n;have vL:n=k:=ae;subst vL;have hO:=aa ho;rw[kq (by rw[aa en];exact jS _)]at hO;have mG:(vi n::l.map nM).length=n+1:=by rw[iU,fe,aa en]
 obtain⟨G,vs,rfl,hPa⟩:=hO.parts mG ae;have HPA:=af hPa;have EE:Hid (tK nM l=cat (vi n::l.map nM)):=by show _=_;rw[tK,aa en]
 have LX:=af mG.symm;clear hO hPa mG ho hk aX;go_wp2_with fail;refine(ur LX EE eN HPA hN ae).mono ?_;rintro r w5⟨p5,c5,rfl,o5,dS⟩;have b5:=aj aG dS;have O5:=af (Own.mono (B':=w.heap.size) o5 aG.size);clear o5 dS;go_wp2;go_ret;exact⟨p5,c5,rfl,O5,b5⟩}}
def as2{X:World}{l0 l1 l2 l3 l4:LI}(e:Hid (lm=cat [l0,l1,l2,l3,l4]))(en:Hid (lm.length=N))(r0:Rd X v0 l0)(r1:Rd X v1 l1)(r2:Rd X v2 l2)(r3:Rd X v3 l3)(r4:Rd X v4 l4)(hl:N<=4194304):Cp 62 #[.T X.heap.size 5 5] (X.alloc (.cells #[v0,v1,v2,v3,v4] 22)) fun e w'=>∃p' c',e=.returned (.S p' N c')/\Own X.heap.size w' (.S p' N c') lm/\Bw X w':=by
 have ba:Bw X (X.alloc (.cells #[v0,v1,v2,v3,v4] 22)):=ay.alloc ao _;refine(fM [l0,l1,l2,l3,l4] 5 rfl e en (Yt ai ai ai ai ai (r0.below ba) (r1.below ba) (r2.below ba) (r3.below ba) (r4.below ba)) hl ae).mono ?_;rintro e w'⟨p',c',rfl,o,hb⟩;exact⟨p',c',rfl,Own.mono o ai,aj ba hb⟩
theorem at0(he:e<18446744073709551616)(hg:g<18446744073709551616)(hx:x<18446744073709551616){p q:OA}{c n d m:Nat}(en:Hid (ss.length=n))(em:Hid (ns.length=m)){w:World}(h:nI w (.S p n c) ss)(hN:qz w (.S q m d) ns)(hn:n<=1048576)(hm:m<=1048576)(qi:Hid (∀s∈ss,s.2.2.length<=1048576/\∀e∈s.2.2,aM e.2/\e.2.length<=1048576))(fS:Hid (∀nd∈ns,aM nd.path/\nd.path.length<=1048576/\nd.value.length<=1048576/\nd.holders.length<=1048576/\nd.watchers.length<=1048576))(OJ:Hid (∀nd∈ns,(∀i∈nd.holders,0<=i/\i<18446744073709551616)/\∀i∈nd.watchers,0<=i/\i<18446744073709551616))(hou:Hid (∀nd∈ns,0<=nd.owner/\nd.owner<18446744073709551616))(hep:Hid (∀nd∈ns,(0<=nd.aJ/\nd.aJ<18446744073709551616)/\0<=nd.gen/\nd.gen<18446744073709551616))(GO:ML w){R:LI}(eR:Hid (Ij e g x t ss ns=R))(eL:Hid (R.length=L)):Cp 106 #[gh e g x t (.S p n c) (.S q m d)] w fun r w'=>∃p' c',r=.returned (.S p' L c')/\Own w.heap.size w' (.S p' L c') R/\Bw w w':=by
 have HR:=af fun(w':World)(hb:Bw w w')=>ah (h.below hb) (ah (hN.below hb) (GO.below hb));clear h hN GO;obtain⟨B,eB⟩:∃B,Hid (mw e g x t ss ns=B):=⟨_,bq⟩;obtain⟨W,hW⟩:=au (w.alloc (.cells #[.U e,.U g,.U x,.I t,.S p n c,.S q m d] 32));have bW:=dO hW;have uY:jv W w.heap.size e g x t (.S p n c) (.S q m d):=by rw[hW];simp[jv]
 have WV:=af uY;go_enter func106,ntmps106;go_wp2_with fail;rw[<-hW];clear hW uY;refine(aO4 en em (aa HR _ bW).1 (aa HR _ bW).2.1 hn hm qi fS OJ hou (aa HR _ bW).2.2 eB).mono ?_;rintro z9 w1⟨rfl,aA⟩;have b1:=aj bW aA;have C1:=af (WV.below aA);clear aA bW WV;cases B with
 |false=>
  have e1:=aa eR;have e2:=aa eL;rw[Ij,bH (by rw[aa eB];simp)]at e1;subst e1;have e3:L=0:=e2.symm;subst e3;clear e2;go_wp2;go_ret;exact⟨none,0,rfl,Own.nil _ _,b1⟩
 |true=>
  obtain⟨i0,i1,i2,i3,i4,i5⟩:=aa C1;have hF:=DB eB qi fS;have HF:=af hF;have hS:=XX eB OJ hou hep;have hRR:R=De e g x (ss.map gI) (ns.map iG):=by have:=aa eR;rw[Ij,bN (aa eB)]at this;rw[<-this,an8];simp
  have AG:=hS.dur;have lens:=an7 (e:=e) (g:=g) (x:=x) AG.w;have hn5:n<=50:=by have:=hS.n1;rw[aa en]at this;exact this
  have hm5:m<=200:=by have:=hS.n2;rw[aa em]at this;exact this
  obtain⟨sl,Wn⟩:=au (ss.map gI);obtain⟨nl,jH⟩:=au (ns.map iG);have Gg:Hid (sl.length=n):=by show _=_;rw[Wn,fe];exact aa en
  have em2:Hid (nl.length=m):=by show _=_;rw[jH,fe];exact aa em
  rw[<-Wn,<-jH]at AG hRR lens;have EE:Hid (R=cat [vi e,vi g,vi x,tK tY sl,tK nM nl]):=hRR;have hL:L<=4194304:=by have h1:=lens.1;rw[<-hRR,aa eL]at h1;omega
  obtain⟨N0,e0⟩:∃M,Hid ((vi e).length=M):=⟨_,bq⟩;obtain⟨N1,e1⟩:∃M,Hid ((vi g).length=M):=⟨_,bq⟩;obtain⟨N2,e2⟩:∃M,Hid ((vi x).length=M):=⟨_,bq⟩;obtain⟨N3,e3⟩:∃M,Hid ((tK tY sl).length=M):=⟨_,bq⟩;obtain⟨N4,e4⟩:∃M,Hid ((tK nM nl).length=M):=⟨_,bq⟩;have Cd:N3<=4194304:=by have h1:=lens.2.1;rw[aa e3]at h1;omega
  have hN4:N4<=4194304:=by have h1:=lens.2.2;rw[aa e4]at h1;omega
  have Cq:=af AG;have tC:Hid (∀s∈sl,0<=s.1/\s.1<18446744073709551616):=AG.s;have ESL:=af Wn;have ENL:=af jH;clear hF hS AG lens hRR Wn jH;have ch3:∀(vs:Array Value)(w:World),(callFunc 62 vs).run prog w=.ok (.enter 62 vs) w:=fun vs w=>bg;have ch2:∀(vs:Array Value)(w:World),(callFunc 145 vs).run prog w=.ok (.enter 145 vs) w:=fun vs w=>bg;have ch1:∀(vs:Array Value)(w:World),(callFunc 146 vs).run prog w=.ok (.enter 146 vs) w:=fun vs w=>bg;have ch0:∀(vs:Array Value)(w:World),(callFunc 148 vs).run prog w=.ok (.enter 148 vs) w:=fun vs w=>bg;clear ch3 ch2 ch1 ch0;go_wp2_with fail;refine(Pr en em (aa HR _ b1).1 (aa HR _ b1).2.1 hn hm HF fS OJ).mono ?_;rintro z9 w2⟨ps,cs,pn,dn,rfl,ow2,aF⟩;have b2:=aj b1 aF;obtain⟨A1,A2,r1,r2,-⟩:=ow2;rw[<-aa ESL]at r1;rw[<-aa ENL]at r2;clear aF b1 C1 i0 i1 i2 i3 i4 i5;have R2:=af (ah r1 r2);clear r1 r2;go_wp2_with fail;obtain⟨W0,dV⟩:=au (w2.alloc (.cells #[.U e,.U g,.U x,.I 0,.S ps n cs,.S pn m dn] 32));have bW0:=dO dV;have hA6:jv W0 w2.heap.size e g x 0 (.S ps n cs) (.S pn m dn):=by rw[dV];simp[jv]
  obtain⟨GB,hGB⟩:=au w2.heap.size;rw[<-dV];rw[<-hGB]at hA6⊢;obtain⟨v0,oK⟩:=au W0.drew;have BW0:Hid (Bw w v0):=by rw[oK];exact(aj b2 bW0).drew
  have S0:Hid (jv v0 GB e g x 0 (.S ps n cs) (.S pn m dn)):=by rw[oK];exact hA6
  have D0:Hid (nI v0 (.S ps n cs) sl/\qz v0 (.S pn m dn) nl):=by rw[oK];exact⟨R2.1.below bW0.drew,R2.2.below bW0.drew⟩
  refine dy (fun w'=>jv w' GB e g x 0 (.S ps n cs) (.S pn m dn)) (by rw[<-oK];exact aa S0) fun hS=>?_;rw[<-oK]at hS⊢;clear oK dV bW0 hA6 hGB R2 b2;refine mn 0 1 3 4 6 7 9 10 hS ?_;refine jZ 12 13 hS ?_;refine ry [2] ?_;refine cn (fun KK hK=>?_) ?_;{refine jJ (uL he e0) ?_;rintro z9 v1⟨pA,cA,rfl,oA,aA⟩;refine⟨_,rfl,?_⟩;have S1:=af (S0.below aA);have BW1:=af (aj BW0 aA);have D1:=af (ah (D0.1.below aA) (D0.2.below aA));have RA1:=af oA.rd;refine gr hK (by exact S1) fun hS=>?_;clear hK KK oA aA;refine dE 5 fun KK hK=>?_;refine jJ (uL hg e1) ?_;rintro z9 v2⟨pB,cB,rfl,oB,aF⟩;refine⟨_,rfl,?_⟩;have S2:=af (S1.below aF);have BW2:=af (aj BW1 aF);have D2:=af (ah (D1.1.below aF) (D1.2.below aF));have RA2:=af (RA1.below aF);have RB2:=af oB.rd;refine gr hK (by exact S2) fun hS=>?_;clear hK KK oB aF;refine dE 8 fun KK hK=>?_;refine jJ (uL hx e2) ?_;rintro z9 v3⟨pC,cC,rfl,oC,bf⟩;refine⟨_,rfl,?_⟩;have S3:=af (S2.below bf);have BW3:=af (aj BW2 bf);have D3:=af (ah (D2.1.below bf) (D2.2.below bf));have RA3:=af (RA2.below bf);have RB3:=af (RB2.below bf);have RC3:=af oC.rd;refine gr hK (by exact S3) fun hS=>?_;clear hK KK oC bf;refine dE 11 fun KK hK=>?_;refine xR (VF Gg D3.1 ae tC e3 Cd) ?_;rintro z9 v4⟨pD,cD,rfl,oD,fk⟩;refine⟨_,rfl,?_⟩;have S4:=af (S3.below fk);have BW4:=af (aj BW3 fk);have D4:=af (ah (D3.1.below fk) (D3.2.below fk));have RA4:=af (RA3.below fk);have RB4:=af (RB3.below fk);have RC4:=af (RC3.below fk);have RD4:=af oD.rd;refine gr hK (by exact S4) fun hS=>?_;clear hK KK oD fk;refine dE 14 fun KK hK=>?_;refine xR (VG em2 D4.2 ae Cq e4 hN4) ?_;rintro z9 v5⟨pE,cE,rfl,oE,dS⟩;refine⟨_,rfl,?_⟩;have S5:=af (S4.below dS);have BW5:=af (aj BW4 dS);have RA5:=af (RA4.below dS);have RB5:=af (RB4.below dS);have RC5:=af (RC4.below dS);have RD5:=af (RD4.below dS);have RE5:=af oE.rd;refine gr hK (by exact S5) fun hS=>?_;clear hK KK oE dS;refine dE 15 fun KK hK=>?_;go_simp;obtain⟨Y,hY⟩:=au (v5.alloc (.cells #[.S pA N0 cA,.S pB N1 cB,.S pC N2 cC,.S pD N3 cD,.S pE N4 cE] 22));have hbY:=dO hY;have SY:=af (S5.below hbY);have JJ:=af (as2 EE eL RA5 RB5 RC5 RD5 RE5 hL);rw[<-hY]at JJ⊢;refine gr hK (by exact SY) fun hS=>?_;clear hK KK hY hbY;refine dE 16 fun KK hK=>?_;refine jJ JJ ?_;rintro z9 Z⟨pj,cj,rfl,oj,rQ⟩;refine⟨_,rfl,?_⟩;have FI:=af (ah (Own.mono (B':=w.heap.size) oj BW5.size) (aj (aa BW5) rQ));refine gr hK (by exact S5.below rQ) fun hS=>?_;clear hK KK oj rQ;refine tn 17 hS ?_;refine di ?_;clear hS;go_wp2;go_ret;exact⟨pj,cj,rfl,FI⟩};exact AllReadyH.nil
def ae4(he:e<18446744073709551616)(hg:g<18446744073709551616)(hx:x<18446744073709551616)(hr:∀nd∈ns,RgN nd):aM (Ij e g x t ss ns):=by
 rw[Ij];split;{next h=>exact Tu ae ae ae (JZ h hr) hr}
 {exact fun z hz=>by simp at hz}
theorem ZD{c n:Nat}(en:Hid (l.length=n)){w:World}(h:Rd w (.S p n c) l)(hb:Hid (aM l))(hl:n<=1048576)(vG:n<=c)(hp:Hid ((p=none/\c=0)\/∃b o,p=some ⟨b,o,none⟩))(ji:Hid (∀b o,p=some ⟨b,o,none⟩->b<w.heap.size))(GO:ML w):Cp 59 #[.S p n c] w fun r w'=>ah8 w.heap.size r w' (Gn (jP l)) (Gp (jP l))/\Bw w w':=by
 have HR:=af fun(w':World)(hb:Bw w w')=>ah (h.below hb) (GO.below hb);obtain⟨⟨e,m1,s1⟩,E1⟩:∃y,Hid (jk (l,false)=y):=⟨_,bq⟩;obtain⟨⟨g,m2,s2⟩,E2⟩:∃y,Hid (jk (m1,s1)=y):=⟨_,bq⟩;obtain⟨⟨x,m3,s3⟩,E3⟩:∃y,Hid (jk (m2,s2)=y):=⟨_,bq⟩;obtain⟨⟨ss,m4,s4⟩,E4⟩:∃y,Hid (lF TD (m3,s3)=y):=⟨_,bq⟩;obtain⟨⟨ns,m5,s5⟩,E5⟩:∃y,Hid (lF JV (m4,s4)=y):=⟨_,bq⟩;have EI:Hid (pL l=((e,g,x),ss,ns,m5,s5)):=by show _=_;rw[pL];simp only[aa E1,aa E2,aa E3,aa E4,aa E5]
 have k1:=ir (l,false) (aa hb) (by dsimp only;rw[aa en];exact hl);rw[aa E1]at k1;obtain⟨ue,c1,d1,-⟩:=k1;dsimp only at ue c1 d1;rw[aa en]at d1;have k2:=ir (m1,s1) c1 (by dsimp only;omega);rw[aa E2]at k2;obtain⟨ug,c2,d2,-⟩:=k2;dsimp only at ug c2 d2;have k3:=ir (m2,s2) c2 (by dsimp only;omega);rw[aa E3]at k3;obtain⟨ux,c3,d3,-⟩:=k3;dsimp only at ux c3 d3;have k4:=Jk Q5 (s:=(m3,s3)) c3 (by dsimp only;omega);rw[aa E4]at k4;obtain⟨hss,c4,d4,f4⟩:=k4;dsimp only at hss c4 d4 f4;have k5:=Jk Q6 (s:=(m4,s4)) c4 (by dsimp only;omega);rw[aa E5]at k5;obtain⟨Xf,c5,d5,f5⟩:=k5;dsimp only at Xf c5 d5 f5;have B1:=af c1;have B2:=af c2;have B3:=af c3;have B4:=af c4;have g1:m1.length<=1048576:=ae;have g2:m2.length<=1048576:=ae;have g3:m3.length<=1048576:=ae;have g4:m4.length<=1048576:=ae;obtain⟨KS,eKS⟩:∃k,Hid (ss.length=k):=⟨_,bq⟩;obtain⟨KN,eKN⟩:∃k,Hid (ns.length=k):=⟨_,bq⟩;have hKS:KS<=1048576:=by rw[<-aa eKS];omega
 have hKN:KN<=1048576:=by rw[<-aa eKN];omega
 have HSS:=af hss;have HNS:=af Xf;have re:0<=e/\e<18446744073709551616:=ue;have rg:0<=g/\g<18446744073709551616:=ug;have rx:0<=x/\x<18446744073709551616:=ux;obtain⟨e,rfl⟩:∃v:Nat,e=(v:Int):=⟨e.toNat,ae⟩;obtain⟨g,rfl⟩:∃v:Nat,g=(v:Int):=⟨g.toNat,ae⟩;obtain⟨x,rfl⟩:∃v:Nat,x=(v:Int):=⟨x.toNat,ae⟩;have he:e<18446744073709551616:=ae;have hg:g<18446744073709551616:=ae;have hx:x<18446744073709551616:=ae;clear c1 c2 c3 c4 c5 d1 d2 d3 d4 d5 f4 f5 ue ug ux hss Xf re rg rx;obtain⟨W1,mR⟩:=au (w.alloc (.cells #[.U 0,.U 0,.U 0,.I 0,.S none 0 0,.S none 0 0] 32));have bW1:=dO mR;have zW1:W1.heap.size=w.heap.size+1:=by rw[mR];simp
 obtain⟨W,hW⟩:=au (W1.alloc (.cells #[.S p n c,.bool false] 147));have Xt:=dO hW;have zW:W.heap.size=w.heap.size+2:=by rw[hW];simp;omega
 have bW:=aj bW1 Xt;obtain⟨R,hR⟩:=au (w.heap.size+1);have C0:Hid (al W w.heap.size [.U 0,.U 0,.U 0,.I 0,.S none 0 0,.S none 0 0]):=by
  have:al W1 w.heap.size [.U 0,.U 0,.U 0,.I 0,.S none 0 0,.S none 0 0]:=by rw[mR];exact al.alloc w #[.U 0,.U 0,.U 0,.I 0,.S none 0 0,.S none 0 0] _
  exact this.below ae Xt
 have R0:Hid (qy W R l n false):=by
  have hc:al W R [.S p n c,.bool false]:=by rw[hW,show R=W1.heap.size by omega];exact al.alloc W1 #[.S p n c,.bool false] _
  refine⟨en,hc.2,p,c,⟨hc.1 0 _ rfl,hc.1 1 _ rfl⟩,?_,vG,hp⟩;obtain⟨p',c',ev,hd⟩:=h.below bW;simp only[dU]at ev;rcases hd with h0|⟨b,o,h1,h2⟩;{exact .inl h0};{refine .inr ⟨b,o,?_,ev.1.trans h1,h2⟩;have:=aa ji b o (ev.1.trans h1);omega}
 have K0:=af (Kept.refl [blk R] W);have hRW:R<W.heap.size:=ae;have hwR:w.heap.size<R:=ae;go_enter func59,ntmps59;go_wp2_with fail;rw[<-mR,<-hW,<-hR];have HRR:=af hR;clear mR hW h GO bW1 Xt zW1 hR;refine(eG (R:=R) (m:=l) (n:=n) (sh:=false) R0 hb hl (x:=e) (m':=m1) (sh':=s1) E1).mono ?_;rintro z9 y1⟨rfl,Hw,jQ⟩;have C1:=af (C0.db jQ ae ae);have K1:=af (K0.trans jQ);have R1:=af Hw;have z1:=jQ.size;clear jQ Hw C0 K0 R0;go_wp2_with fail;refine(eG (R:=R) (m:=m1) (n:=m1.length) (sh:=s1) R1 B1 g1 (x:=g) (m':=m2) (sh':=s2) E2).mono ?_;rintro z9 y2⟨rfl,kY,qK⟩;have C2:=af (C1.db qK ae ae);have K2:=af (K1.trans qK);have R2:=af kY;have z2:=qK.size;clear qK kY C1 K1 R1;go_wp2_with fail;refine(eG (R:=R) (m:=m2) (n:=m2.length) (sh:=s2) R2 B2 g2 (x:=x) (m':=m3) (sh':=s3) E3).mono ?_;rintro z9 y3⟨rfl,GJ,qZ⟩;have C3:=af (C2.db qZ ae ae);have K3:=af (K2.trans qZ);have R3:=af GJ;have z3:=qZ.size;clear qZ GJ C2 K2 R2;go_wp2_with fail;refine(ar4 (R:=R) (m:=m3) (n:=m3.length) (sh:=s3) R3 ae B3 g3 (xs:=ss) (m':=m4) (sh':=s4) E4 (N:=KS) eKS).mono ?_;rintro z9 y4⟨pS,cS,rfl,⟨LS,oS⟩,VW,Z7⟩;have hS4:=af oS.lt;have OS4:=af oS;have C4:=af (C3.db Z7 ae ae);have K4:=af (K3.trans Z7);have R4:=af VW;have z4:=Z7.size;clear Z7 VW C3 K3 R3 oS;go_wp2_with fail;refine(ar5 (R:=R) (m:=m4) (n:=m4.length) (sh:=s4) R4 ae B4 g4 (xs:=ns) (m':=m5) (sh':=s5) E5 (N:=KN) eKN).mono ?_;rintro z9 y5⟨pN,cN,rfl,⟨LN,oN⟩,hr5,Xk⟩;have ON5:=af oN;have C5:=af (C4.db Xk ae ae);have K5:=af (K4.trans Xk);have R5:=af hr5;have z5:=Xk.size;have OS5:=af (OS4.db kK.keep Xk ae);clear Xk hr5 C4 K4 R4 oN OS4;have b5:Bw w y5:=fw bW K5 ae;have FF:Hid (il W.heap.size y5 pS KS cS pN KN cN ss ns):=by obtain⟨A1,q1,q2,q3⟩:=OS5.tY (M:=y4.heap.size) (fun a ha=>(hS4.2 a ha).2) (fun b hb=>(hS4.1 b hb).2);obtain⟨rn,A2,q4,q5⟩:=ON5.no;exact⟨A1,A2,OS5.se.1,rn,q1,q4,(q2.mono ae).app q5 ae q3⟩
 clear OS5 ON5 hS4;obtain⟨V,hV⟩:=au (y5.alloc (.cells #[.U e,.U g,.U x,.I 0,.S pS KS cS,.S pN KN cN] 32));have Sh:=dO hV;have CV:=af (C5.below ae Sh);have RV:=af (R5.below Sh ae);have bV:=aj b5 Sh;have FV:=af (FF.below Sh);obtain⟨sb,RI⟩:=au y5.heap.size;have CS:Hid (al V sb [.U e,.U g,.U x,.I 0,.S pS KS cS,.S pN KN cN]):=by show al _ _ _;rw[hV,RI];exact al.alloc y5 #[.U e,.U g,.U x,.I 0,.S pS KS cS,.S pN KN cN] _
 have zV:V.heap.size=sb+1:=by rw[hV];simp;omega
 have RH:w.heap.size<sb:=ae;obtain⟨-,-,-,-,⟨-,gsh⟩,-⟩:=aa RV;rw[hV]at gsh;have HV:=af hV;have HSB:=af RI;clear hV Sh C5 R5 FF RI;cases s5 with
 |true=>
  have hV:=aa HV;have CV2:=CV;have bV2:=bV;rw[hV]at CV2 bV2;have hP:jP l=none:=by rw[jP,aa EI];rw[bH (fun hh=>by cases hh.1)]
  have HD:Hid (Gn (jP l)=rz/\Gp (jP l)=13):=by rw[hP];exact⟨rfl,rfl⟩
  clear hP;have r0:=CV2.1 0 _ rfl;have r1:=CV2.1 1 _ rfl;have r2:=CV2.1 2 _ rfl;have r3:=CV2.1 3 _ rfl;have r4:=CV2.1 4 _ rfl;have r5:=CV2.1 5 _ rfl;have rf:=CV2.2;clear hV;have BB:=bV2;go_wp2;refine fL (v:=.tuple #[gh 0 0 0 0 (.S none 0 0) (.S none 0 0),.I 13]) (by simp[results,results59,go_sem,r0,r1,r2,r3,r4,r5]) rfl ⟨?_,?_⟩;{rw[HD.1,HD.2];exact⟨none,0,none,0,rfl,il.zero _ _⟩};{exact(((((BB.setCell ai _).setCell ai _).setCell ai _).setCell ai _).setCell ai _).setCell ai _}
 |false=>
  obtain⟨RL,eRL⟩:∃L,Hid (Ij e g x 0 ss ns=L):=⟨_,bq⟩;obtain⟨L,eL⟩:∃k,Hid (RL.length=k):=⟨_,bq⟩;have qi:Hid (∀s∈ss,s.2.2.length<=1048576/\∀e∈s.2.2,aM e.2/\e.2.length<=1048576):=fun s hs=>by rw[(aa HSS s hs).2];exact⟨gq _,fun e he=>by simp at he⟩
  have fS:Hid (∀nd∈ns,aM nd.path/\nd.path.length<=1048576/\nd.value.length<=1048576/\nd.holders.length<=1048576/\nd.watchers.length<=1048576):=fun nd br=>by have:=aa HNS nd br;exact⟨this.by0,this.l0,this.l1,this.l4,by rw[this.l7];exact gq _⟩
  have OJ:Hid (∀nd∈ns,(∀i∈nd.holders,0<=i/\i<18446744073709551616)/\∀i∈nd.watchers,0<=i/\i<18446744073709551616):=fun nd br=>⟨(aa HNS nd br).ho,fun i hi=>by rw[(aa HNS nd br).l7]at hi;simp at hi⟩;have hou:Hid (∀nd∈ns,0<=nd.owner/\nd.owner<18446744073709551616):=fun nd br=>(aa HNS nd br).ow
  have hep:Hid (∀nd∈ns,(0<=nd.aJ/\nd.aJ<18446744073709551616)/\0<=nd.gen/\nd.gen<18446744073709551616):=fun nd br=>⟨(aa HNS nd br).ep,(aa HNS nd br).ge⟩
  go_wp2_with fail;rw[<-aa HV];have RRV:Hid (nI V (.S pS KS cS) ss/\qz V (.S pN KN cN) ns):=by obtain⟨-,-,q1,q2,-⟩:=aa FV;exact⟨q1,q2⟩
  refine(at0 (e:=e) (g:=g) (x:=x) (t:=0) he hg hx (p:=pS) (q:=pN) (c:=cS) (n:=KS) (d:=cN) (m:=KN) (ss:=ss) (ns:=ns) eKS eKN RRV.1 RRV.2 hKS hKN qi fS OJ hou hep (aa HR _ bV).2 (R:=RL) eRL (L:=L) eL).mono ?_;rintro z9 u1⟨pE,cE,rfl,oE,qX⟩;have b6:=aj bV qX;have C6:=af (CV.below ae qX);have S6:=af (CS.below ae qX);have F6:=af (FV.below qX);have RE:=af oE.rd;have zu1:=qX.size;clear oE qX gsh;go_wp2_with fail;refine(ja (p:=pE) (q:=p) (c:=cE) (d:=c) (n:=L) (k:=n) (l:=RL) (m:=l) eL en (aa RE) (aa HR _ b6).1 (by rw[<-aa eRL];exact ae4 he hg hx (aa HNS)) (aa hb)).mono ?_;rintro z9 u2⟨rfl,Qd⟩;have b7:=aj b6 Qd;have C7:=af (C6.below ae Qd);have S7:=af (S6.below ae Qd);have F7:=af (F6.below Qd);have zu2:=Qd.size;clear Qd;by_cases hEq:RL=l;{
 have hd:decide (RL=l)=true:=by simpa using hEq
 have hP:jP l=some (((e:Int),(g:Int),(x:Int)),ss,ns):=by rw[jP,aa EI];rw[bN ⟨rfl,eRL.trans hEq⟩]
 have HD:Hid (Gn (jP l)=⟨e,g,x,0,ss,ns⟩/\Gp (jP l)=0):=by rw[hP];exact⟨rfl,rfl⟩
 rw[hd];have r0:=C7.1 0 _ rfl;have r1:=C7.1 1 _ rfl;have r2:=C7.1 2 _ rfl;have r3:=C7.1 3 _ rfl;have r4:=C7.1 4 _ rfl;have r5:=C7.1 5 _ rfl;have rf:=C7.2;have k0:=S7.1 0 _ rfl;have k1:=S7.1 1 _ rfl;have k2:=S7.1 2 _ rfl;have k3:=S7.1 3 _ rfl;have k4:=S7.1 4 _ rfl;have k5:=S7.1 5 _ rfl;have q1:¬w.heap.size=sb:=ae;have q2:¬sb=w.heap.size:=ae;clear hP hd hEq;rw[<-aa HSB];go_wp2;obtain⟨Z,hZ⟩:=au ((((((u2.setCell ⟨w.heap.size,0,none⟩ (.U e)).setCell ⟨w.heap.size,1,none⟩ (.U g)).setCell ⟨w.heap.size,2,none⟩ (.U x)).setCell ⟨w.heap.size,3,none⟩ (.I 0)).setCell ⟨w.heap.size,4,none⟩ (.S pS KS cS)).setCell ⟨w.heap.size,5,none⟩ (.S pN KN cN));have hkZ:∀z,z≠w.heap.size->Z.heap[z]?=u2.heap[z]?:=fun z hz=>by
  rw[hZ]
  iterate 6 rw[fy _ _ _ _ hz]
 refine fL (v:=.tuple #[gh e g x 0 (.S pS KS cS) (.S pN KN cN),.I 0]) (by simp[results,results59,go_sem,r0,r1,r2,r3,r4,r5]) rfl ⟨?_,?_⟩;{rw[<-hZ,HD.1,HD.2];have f:=(F7.keep (w':=Z) (fun z hz _=>hkZ z ae)).mono (B':=w.heap.size) ae;rw[<-aa eKS,<-aa eKN]at f⊢;exact⟨pS,cS,pN,cN,rfl,f⟩};{exact(((((b7.setCell ai _).setCell ai _).setCell ai _).setCell ai _).setCell ai _).setCell ai _}};{
 have hd:decide (RL=l)=false:=by simpa using hEq
 rw[hd];have hP:jP l=none:=by rw[jP,aa EI];rw[bH (fun hh=>hEq (eRL.symm.trans hh.2))]
 have HD:Hid (Gn (jP l)=rz/\Gp (jP l)=13):=by rw[hP];exact⟨rfl,rfl⟩
 clear hP;have r0:=C7.1 0 _ rfl;have r1:=C7.1 1 _ rfl;have r2:=C7.1 2 _ rfl;have r3:=C7.1 3 _ rfl;have r4:=C7.1 4 _ rfl;have r5:=C7.1 5 _ rfl;have rf:=C7.2;have BB:=b7;go_wp2;refine fL (v:=.tuple #[gh 0 0 0 0 (.S none 0 0) (.S none 0 0),.I 13]) (by simp[results,results59,go_sem,r0,r1,r2,r3,r4,r5]) rfl ⟨?_,?_⟩;{rw[HD.1,HD.2];exact⟨none,0,none,0,rfl,il.zero _ _⟩};{exact(((((BB.setCell ai _).setCell ai _).setCell ai _).setCell ai _).setCell ai _).setCell ai _}}
def al.c6{w:World}(h:al w b (v0::v1::v2::v3::v4::v5::vs)):w.cell? ⟨b,0,none⟩=some v0/\w.cell? ⟨b,1,none⟩=some v1/\w.cell? ⟨b,2,none⟩=some v2/\w.cell? ⟨b,3,none⟩=some v3/\w.cell? ⟨b,4,none⟩=some v4/\w.cell? ⟨b,5,none⟩=some v5/\∀o,w.frozen? ⟨b,o,none⟩=false:=
 ⟨h.1 0 _ rfl,h.1 1 _ rfl,h.1 2 _ rfl,h.1 3 _ rfl,h.1 4 _ rfl,h.1 5 _ rfl,h.2⟩
def oY{w u:World}{a0 a1 a2 a3 a4 a5:Addr}{v0 v1 v2 v3 v4 v5:Value}(h:Bw w u)(h0:w.heap.size<=a0.block:=by simp)(h1:w.heap.size<=a1.block:=by simp)(h2:w.heap.size<=a2.block:=by simp)(h3:w.heap.size<=a3.block:=by simp)(h4:w.heap.size<=a4.block:=by simp)(h5:w.heap.size<=a5.block:=by simp):Bw w ((((((u.setCell a0 v0).setCell a1 v1).setCell a2 v2).setCell a3 v3).setCell a4 v4).setCell a5 v5):=(((((h.setCell h0 _).setCell h1 _).setCell h2 _).setCell h3 _).setCell h4 _).setCell h5 _
def yR{w u:World}(h:Hid (dJ l=none))(hb:Bw w u):ah8 w.heap.size (.returned (.tuple #[gh 0 0 0 0 (.S none 0 0) (.S none 0 0),.I 13])) u (Gn (dJ l)) (Gp (dJ l))/\Bw w u:=by
 rw[aa h];exact⟨⟨none,0,none,0,rfl,il.zero _ _⟩,hb⟩
def YC{n:Nat}(en:Hid (l.length=n))(h:Hid (jM n l om)):∃e o1 a,Hid (oV om=(e,o1))/\Hid (mI n o1=a)/\Hid (jM n l o1):=⟨(oV om).1,(oV om).2,_,af rfl,af rfl,af (gQ en h)⟩
def oTs{n:Nat}(en:Hid (l.length=n))(h:Hid (jM n l om)):∃e o1 a,Hid (oT om=(e,o1))/\Hid (mI n o1=a)/\Hid (jM n l o1):=⟨(oT om).1,(oT om).2,_,af rfl,af rfl,af (Es en h)⟩
theorem ao1{c n:Nat}(en:Hid (l.length=n)){w:World}(h:Rd w (.S p n c) l)(hb:Hid (aM l))(hl:n<=1048576)(vG:n<=c):Cp 16 #[.S p n c] w fun r w'=>ah8 w.heap.size r w' (Gn (dJ l)) (Gp (dJ l))/\Bw w w':=by
 have HR:=af fun(w':World)(hb:Bw w w')=>h.below hb;clear h;have S0:=af (jM.start en);have A0:Hid (mI n (some l)=0):=by show _=_;rw[mI,aa en];omega
 obtain⟨is,his,sz0,sz1,sz2⟩:=info_parts Tryz.infoSes;obtain⟨io,hio,oz0,oz1,oz2⟩:=info_parts Tryz.infoNod;obtain⟨iu,hiu,uz0,uz1,uz2⟩:=info_parts Tryz.infoU64;obtain⟨e,o1,a1,E1,A1,S1⟩:=YC en S0;obtain⟨g,o2,a2,E2,A2,S2⟩:=YC en S1;obtain⟨x,o3,a3,E3,A3,S3⟩:=YC en S2;obtain⟨k,o4,a4,E4,A4,S4⟩:=YC en S3;obtain⟨W,hW⟩:=au (w.alloc (.cells #[.U 0,.U 0,.U 0,.I 0,.S none 0 0,.S none 0 0] 32));have bW:=dO hW;have zW:W.heap.size=w.heap.size+1:=by rw[hW];simp
 have RW:Hid (al W w.heap.size [.U 0,.U 0,.U 0,.I 0,.S none 0 0,.S none 0 0]):=by show al _ _ _;rw[hW];exact al.alloc w #[.U 0,.U 0,.U 0,.I 0,.S none 0 0,.S none 0 0] _
 go_enter func16,ntmps16;go_wp2_with fail;rw[<-hW];clear hW;refine(uf en (aa HR _ bW) hb hl S0 A0 E1 A1).mono ?_;rintro z9 w1⟨rfl,rfl⟩;go_wp2_with fail;refine(uf en (aa HR _ bW) hb hl S1 A1 E2 A2).mono ?_;rintro z9 w1⟨rfl,rfl⟩;go_wp2_with fail;refine(uf en (aa HR _ bW) hb hl S2 A2 E3 A3).mono ?_;rintro z9 w1⟨rfl,rfl⟩;go_wp2_with fail;refine(uf en (aa HR _ bW) hb hl S3 A3 E4 A4).mono ?_;rintro z9 w1⟨rfl,rfl⟩;have hk:0<=k/\k<18446744073709551616:=by have:=iS (om:=o3);rw[aa E4]at this;exact this
 have n4:=DD S4;rw[aa A4]at n4;have N4:=af n4.1;have m4:-1<=a4/\a4<=n:=⟨n4.2.2,n4.2.1⟩;clear n4;by_cases h4:a4<0;{
 have hn:=N4.1 h4;have hP:dJ l=none:=by
  rw[dJ,xM];simp only[aa E1,aa E2,aa E3,aa E4];rw[bN (.inl hn)]
  rfl
 have HD:=af hP;clear hP;obtain⟨r0,r1,r2,r3,r4,r5,rf⟩:=RW.c6;have BB:=bW;go_wp2;refine fL (by simp[results,results16,go_sem,r0,r1,r2,r3,r4,r5,zW]) rfl (yR HD (L5 (oY BB)))};{
 by_cases h5:50<k;{
 skip
 have hP:dJ l=none:=by
  rw[dJ,xM];simp only[aa E1,aa E2,aa E3,aa E4];rw[bN (.inr h5)]
  rfl
 have HD:=af hP;clear hP;obtain⟨r0,r1,r2,r3,r4,r5,rf⟩:=RW.c6;have BB:=bW;go_wp2;refine fL (by simp[results,results16,go_sem,r0,r1,r2,r3,r4,r5,zW]) rfl (yR HD (L5 (oY BB)))};{
 skip
 obtain⟨K,rfl⟩:∃K:Nat,k=(K:Int):=⟨k.toNat,ae⟩;have hn4:¬o4=none:=fun hh=>h4 (N4.2 hh);have HN4:=af hn4;have wK:=dZ K;have dv9:K<=50:=ae;obtain⟨V,hV⟩:=au (w1.alloc (.cells #[.U e,.U g,.U x,.I 0,.S none 0 0,.S none 0 0] 32));have Sh:=dO hV;obtain⟨sb,RI⟩:=au (w.heap.size+1);have CV:Hid (al V sb [.U e,.U g,.U x,.I 0,.S none 0 0,.S none 0 0]):=by show al _ _ _;rw[hV,show sb=w1.heap.size by omega];exact al.alloc w1 #[.U e,.U g,.U x,.I 0,.S none 0 0,.S none 0 0] _
 have zV:V.heap.size=sb+1:=by rw[hV];simp;omega
 have zw1:w1.heap.size=sb:=ae;clear N4 hn4;go_wp2;rw[<-hV,<-RI];have hws:w.heap.size<sb:=ae;have HSB:=af RI;clear hV RI zW
 go_loopw[5,13](fun av iv wr=>∃(j:Nat)(a:Int)(Sv:Value)(Ls:List (List Lf)),j<=K/\av=.I a/\iv=.I j/\Hid (mI n (rL oV j o4).2=a)/\Hid (jM n l (rL oV j o4).2)/\Hid (al wr sb [.U e,.U g,.U x,.I 0,Sv,.S none 0 0]/\OwnT kK 86 3 (sb+1) wr Sv ((rL oV j o4).1.map Qc) Ls)/\Hid (Bw w1 wr)/\sb<wr.heap.size) (fun _ iv _=>K-(intOf iv).toNat)
 exact⟨0,_,_,[],gq _,rfl,rfl,A4,S4,⟨CV,OwnT.nil _ _ _ _ _⟩,Sh,ae⟩;{
 clear CV Sh zV;obtain⟨j,a,Sv,Ls,hj,rfl,rfl,Ea,Sj,jr,Br,zr⟩:=hrel;by_cases aX:j<K;{
 have bu:=aP j K;have wj:IntKind.i64.wrap ((j:Int)+1)=((j+1:Nat):Int):=by rw[ni _ ae];omega
 obtain⟨d,o5,a5,E5,A5,S5⟩:=YC en Sj;have b0:=aj bW Br;go_wp2_with fail;refine(uf en (aa HR _ b0) hb hl Sj Ea E5 A5).mono ?_;rintro z9 w2⟨rfl,rfl⟩;obtain⟨hC,hO⟩:=aa jr;have hlen:((rL oV j o4).1.map Qc).length=j:=by rw[fe,sc]
 have HC:=af hC;have HO:=af hO;have ba5:=af hlen;clear hC hO jr hlen;obtain⟨v3,kx⟩:=au (w2.alloc (.cells #[.U d,.I 0,.S none 0 0] 86));have bf:=dO kx;have BS:∀i u,([.U d,.I 0,.S none 0 0]:List Value)[i]?=some u->v3.cell? ⟨w2.heap.size,i,none⟩=some u:=by rw[kx];exact nQ
 have tF:=af BS;have z3:v3.heap.size=w2.heap.size+1:=by rw[kx];simp
 have OP:=af HO.lt;have C3:=af (HC.below zr bf);have B3:=af (aj Br bf);obtain⟨row,oL,xh⟩:=HO.app kK.keep bf (kK.id v3 d) rfl (mL.nil _ _) ae;rw[aa ba5]at oL xh;have To:=af xh;have Gw:=af oL;have cl:=HC.1 4 _ rfl;clear xh BS oL;go_wp2_with(at_builtin;rw[<-kx];refine cI rfl 29 rfl is 3 underlying29 his sz0 sz1 sz2 rfl aU Sv rfl (aa Gw) w2.heap.size 1 1 [.U d,.I 0,.S none 0 0] rfl rfl (aa tF) (fun u hu=>by simp at hu;rcases hu with rfl|rfl|rfl<;>rfl) ic ae ae ?_);intro v' w9 dh hg yJ;have lG:∀g,v'.ownBlock=some g->Sv.ownBlock=some g\/v3.heap.size<=g:=fun g e=>by have:=yJ g e;rw[kx];simpa using this
 rw[<-kx]at hg;obtain⟨sn,pN,cN,rfl⟩:=aa To v' w9 dh hg lG;have C9:=C3.grown ae hg (fun e=>by have:=(OP.1 sb e.symm).1;omega);have B9:Hid (Bw w1 w9):=B3.grown hg B3.size (fun b e=>by have:=(OP.1 b e).1;omega);have z9:=hg.size;have CT:=af (C9.fK 4 ai (.S pN (j+1) cN));have OT:=af (sn.Yr kK.keep (sb:=sb) ae 4 (.S pN (j+1) cN));have BT:Hid (Bw w1 (w9.setCell ⟨sb,4,none⟩ (.S pN (j+1) cN))):=B9.setCell bj _;have zT:sb<(w9.setCell ⟨sb,4,none⟩ (.S pN (j+1) cN)).heap.size:=by simp;omega
 have cc:=C9.1 4 _ rfl;have cf:=C9.2;have EL:Hid ((rL oV j o4).1.map Qc++[Qc d]=(rL oV (j+1) o4).1.map Qc/\(rL oV (j+1) o4).2=o5):=by show _/\_;rw[rL,aa E5,ko];exact⟨rfl,rfl⟩
 clear dh hg lG yJ sn C9 kx bf cl;go_wp2;go_roundw;exact⟨j+1,a5,_,_,ae,rfl,by go_num,(by rw[EL.2];exact A5),(by rw[EL.2];exact S5),(by rw[<-EL.1];exact⟨aa CT,aa OT⟩),BT,zT⟩;exact bG};{
 have bu:=du j K
 skip
 have ekK:K=j:=ae;subst ekK;obtain⟨hC,hO⟩:=aa jr;obtain⟨w3,ew3⟩:=au wr;subst ew3;obtain⟨pS,cS,evS,-⟩:=id hO.read;rw[fe,sc]at evS;subst evS;have C3:=af hC;have O3:=af hO;have b3:=aj bW Br;have R3:=af (RW.below ae Br);have HSL:Hid (((rL oV K o4).1.map Qc).length=K):=by show _=_;rw[fe,sc]
 clear hC hO jr hj aX bu;obtain⟨q,o7,a7,E7,A7,S7⟩:=YC en Sj;go_wp2_with fail;refine(uf en (aa HR _ b3) hb hl Sj Ea E7 A7).mono ?_;rintro z9 w4⟨rfl,rfl⟩;have hq:0<=q/\q<18446744073709551616:=by have:=iS (om:=(rL oV K o4).2);rw[aa E7]at this;exact this
 have n7:=DD S7;rw[aa A7]at n7;have N7:=af n7.1;have m7:-1<=a7/\a7<=n:=⟨n7.2.2,n7.2.1⟩;clear n7;by_cases h7:a7<0;{
 have hn:=N7.1 h7;have hP:dJ l=none:=by
  rw[dJ,xM];simp only[aa E1,aa E2,aa E3,aa E4];rw[bH (by rw[Ey];exact⟨aa HN4,ae⟩)];simp only[uk,aa E7];rw[bN (.inl hn)]
  rfl
 have HD:=af hP;clear hP;obtain⟨r0,r1,r2,r3,r4,r5,rf⟩:=R3.c6;have BB:=b3;go_wp2;refine fL (by simp[results,results16,go_sem,r0,r1,r2,r3,r4,r5]) rfl (yR HD (oY BB))};{
 by_cases h8:200<q;{
 skip
 have hP:dJ l=none:=by
  rw[dJ,xM];simp only[aa E1,aa E2,aa E3,aa E4];rw[bH (by rw[Ey];exact⟨aa HN4,ae⟩)];simp only[uk,aa E7];rw[bN (.inr h8)]
  rfl
 have HD:=af hP;clear hP;obtain⟨r0,r1,r2,r3,r4,r5,rf⟩:=R3.c6;have BB:=b3;go_wp2;refine fL (by simp[results,results16,go_sem,r0,r1,r2,r3,r4,r5]) rfl (yR HD (oY BB))};{
 skip
 obtain⟨Q,rfl⟩:∃K:Nat,q=(K:Int):=⟨q.toNat,ae⟩;have hn7:¬o7=none:=fun hh=>h7 (N7.2 hh);have HN7:=af hn7;have wQ:=dZ Q;have hQ:Q<=200:=ae;have SPO:Hid (xM l=(fI Q o7).map fun r=>((e,g,x),(rL oV K o4).1.map Qc,r.1,r.2)):=by show _=_;rw[xM];simp only[aa E1,aa E2,aa E3,aa E4];rw[bH (by rw[Ey];exact⟨aa HN4,ae⟩)];simp only[uk,aa E7];rw[bH (by rw[Ey];exact⟨hn7,ae⟩)]
 clear N7 hn7;go_wp2
 go_loopw[5,15](fun av iv wr=>∃(j:Nat)(a:Int)(Nv:Value)(Ls:List (List Lf))(ns:List aB)(om:Option LI),j<=Q/\av=.I a/\iv=.I j/\Hid (fI j o7=some (ns,om))/\Hid (mI n om=a)/\Hid (jM n l om)/\Hid (al wr sb [.U e,.U g,.U x,.I 0,.S pS K cS,Nv]/\OwnT jj 93 8 w4.heap.size wr Nv ns Ls)/\Hid (w4.grownBy wr (some sb))) (fun _ iv _=>Q-(intOf iv).toNat)
 exact⟨0,_,_,[],[],o7,gq _,rfl,rfl,bq,A7,S7,⟨C3,OwnT.nil _ _ _ _ _⟩,oR⟩;{
 obtain⟨j,a,Nv,Ls,ns,om,hj,rfl,rfl,Em,Ea,Sm,jr,xA⟩:=hrel;have b5:=sJ b3 xA ae;have zg:=xA.size;by_cases aX:j<Q;{
 have bu:=aP j Q;have wj:IntKind.i64.wrap ((j:Int)+1)=((j+1:Nat):Int):=by rw[ni _ ae];omega
 obtain⟨hC,hO⟩:=aa jr;have HC:=af hC;have HO:=af hO;have hlen:=(uP en hb hl j S7 Em).2.2;have ba5:=af hlen;clear hC hO jr hlen;obtain⟨PP,q1,c1,F1,G1,T1⟩:=oTs en Sm;obtain⟨VV,q2,c2,F2,G2,T2⟩:=oTs en T1;obtain⟨ow,q3,c3,F3,G3,T3⟩:=YC en T2;obtain⟨⟨mo,q4⟩,F4⟩:∃y,Hid (oB q3=y):=⟨_,bq⟩;obtain⟨c4,G4⟩:∃a,Hid (mI n q4=a):=⟨_,bq⟩;have T4:Hid (jM n l q4):=by have:=Ao (aa en) (aa T3);rw[aa F4]at this;exact this
 obtain⟨hh,q5,c5,F5,G5,T5⟩:=YC en T4;obtain⟨NP,eNP⟩:∃k,Hid (PP.length=k):=⟨_,bq⟩;obtain⟨NV,eNV⟩:∃k,Hid (VV.length=k):=⟨_,bq⟩;go_wp2_with fail;refine(aC3 en (aa HR _ b5) hb hl vG Sm Ea F1 G1 eNP).mono ?_;rintro z9 y1⟨pP,cP,rfl,oP,aA⟩;have b6:=aj b5 aA;have z1:=aA.size;go_wp2_with fail;refine(aC3 en (aa HR _ b6) hb hl vG T1 G1 F2 G2 eNV).mono ?_;rintro z9 y2⟨pV,cV,rfl,oV',aF⟩;have b7:=aj b6 aF;have z2:=aF.size;obtain⟨lP,fP⟩:=Own.pb oP;obtain⟨lV,fV⟩:=Own.pb oV';have FP:=af (fP.below aF);have FV:=af fV;have BX:=af (aj aA aF);have C7:=af (HC.below ae BX);have R7:=af ((R3.grown ae (aa xA) bj).below ae (aa BX));clear oP oV' fP fV aA aF;go_wp2_with fail;refine(uf en (aa HR _ b7) hb hl T2 G2 F3 G3).mono ?_;rintro z9 y3⟨rfl,rfl⟩;go_wp2_with fail;refine(bl2 en (aa HR _ b7) hb hl T3 G3 F4 G4).mono ?_;rintro z9 y4⟨rfl,rfl⟩;go_wp2_with fail;refine(uf en (aa HR _ b7) hb hl T4 G4 F5 G5).mono ?_;rintro z9 X⟨rfl,rfl⟩;have hhr:0<=hh/\hh<18446744073709551616:=by have:=iS (om:=q4);rw[aa F5]at this;exact this
 have n5:=DD T5;rw[aa G5]at n5;have N5:=af n5.1;have m5:-1<=c5/\c5<=n:=⟨n5.2.2,n5.2.1⟩;clear n5;by_cases h9:c5<0;{
 have hn:=N5.1 h9;have R8:=af (R7.below ae (ay.alloc ao (.cells #[.S pP NP cP,.S pV NV cV,.U ow,.I mo,.S none 0 0,.U 0,.U 0,.S none 0 0] 93)));have hP:dJ l=none:=by
  rw[dJ,aa SPO,IG (Bh (aa Em) (by rw[oc];simp only[aa F1,aa F2,aa F3,aa F4,aa F5];rw[bN (.inl hn)])) Q ae]
  rfl
 have HD:=af hP;clear hP;obtain⟨r0,r1,r2,r3,r4,r5,rf⟩:=R8.c6;have BB:=(L5 b7 (o:=.cells #[.S pP NP cP,.S pV NV cV,.U ow,.I mo,.S none 0 0,.U 0,.U 0,.S none 0 0] 93));go_wp2;refine fL (by simp[results,results16,go_sem,r0,r1,r2,r3,r4,r5]) rfl (yR HD (oY BB))};{
 by_cases h10:50<hh;{
 have R8:=af (R7.below ae (ay.alloc ao (.cells #[.S pP NP cP,.S pV NV cV,.U ow,.I mo,.S none 0 0,.U 0,.U 0,.S none 0 0] 93)));have hP:dJ l=none:=by
  rw[dJ,aa SPO,IG (Bh (aa Em) (by rw[oc];simp only[aa F1,aa F2,aa F3,aa F4,aa F5];rw[bN (.inr h10)])) Q ae]
  rfl
 have HD:=af hP;clear hP;obtain⟨r0,r1,r2,r3,r4,r5,rf⟩:=R8.c6;have BB:=(L5 b7 (o:=.cells #[.S pP NP cP,.S pV NV cV,.U ow,.I mo,.S none 0 0,.U 0,.U 0,.S none 0 0] 93));go_wp2;refine fL (by simp[results,results16,go_sem,r0,r1,r2,r3,r4,r5]) rfl (yR HD (oY BB))};{
 skip
 obtain⟨H,rfl⟩:∃K:Nat,hh=(K:Int):=⟨hh.toNat,ae⟩;have hn5:¬q5=none:=fun hh=>h9 (N5.2 hh);have HN5:=af hn5;have wH:=dZ H;have hH:H<=50:=ae;obtain⟨nb,hnb⟩:=au X.heap.size;obtain⟨V5,hV5⟩:=au (X.alloc (.cells #[.S pP NP cP,.S pV NV cV,.U ow,.I mo,.S none 0 0,.U 0,.U 0,.S none 0 0] 93));have Sh:=dO hV5;have CV:Hid (al V5 nb [.S pP NP cP,.S pV NV cV,.U ow,.I mo,.S none 0 0,.U 0,.U 0,.S none 0 0]):=by show al _ _ _;rw[hV5,hnb];exact al.alloc X #[.S pP NP cP,.S pV NV cV,.U ow,.I mo,.S none 0 0,.U 0,.U 0,.S none 0 0] _
 have zV:V5.heap.size=nb+1:=by rw[hV5];simp;omega
 have ZX:Hid (X.heap.size=nb):=hnb.symm;have hsn:sb<nb:=ae;have HNB:=af hnb;clear N5 hn5 hnb;go_wp2;rw[<-hV5,<-aa HNB];clear hV5
 go_loopw[5,27](fun av kv wr=>∃(i:Nat)(a:Int)(Hv:Value),i<=H/\av=.I a/\kv=.I i/\Hid (mI n (rL oV i q5).2=a)/\Hid (jM n l (rL oV i q5).2)/\Hid (al wr nb [.S pP NP cP,.S pV NV cV,.U ow,.I mo,Hv,.U 0,.U 0,.S none 0 0]/\jE (nb+1) wr Hv (rL oV i q5).1)/\Hid (Bw X wr)/\nb<wr.heap.size) (fun _ kv _=>H-(intOf kv).toNat)
 exact⟨0,_,_,gq _,rfl,rfl,G5,T5,⟨CV,World.ownsRow_nil _ _ _ _⟩,Sh,ae⟩;{
 clear CV Sh zV;obtain⟨i,a',Hv,hi,rfl,rfl,Ei,Si,jr,Bi,zi⟩:=hrel;have b8:=aj b7 Bi;by_cases hlh:i<H;{
 have bp2:=aP i H;have wi:IntKind.i64.wrap ((i:Int)+1)=((i+1:Nat):Int):=by rw[ni _ ae];omega
 obtain⟨d,q6,c6,F6,G6,T6⟩:=YC en Si;go_wp2_with fail;refine(uf en (aa HR _ b8) hb hl Si Ei F6 G6).mono ?_;rintro z9 w2⟨rfl,rfl⟩;obtain⟨hC,hO⟩:=aa jr;obtain⟨v3,kx⟩:=au (w2.alloc (.cells #[.U d] 28));have bf:=dO kx;have BS:∀i u,([.U d]:List Value)[i]?=some u->v3.cell? ⟨w2.heap.size,i,none⟩=some u:=by rw[kx];exact nQ
 have tF:=af BS;have z3:v3.heap.size=w2.heap.size+1:=by rw[kx];simp
 have OP:Hid (∀b,Hv.ownBlock=some b->nb+1<=b/\b<w2.heap.size):=fun b e=>hO.lt b e;have C3:=af (hC.below zi bf);have B3:=af (aj Bi bf);have Gw:Hid (v3.ownsRow (nb+1) 28 1 Hv i ((rL oV i q5).1.map (Value.int .u64))):=by have:=hO.below bf;unfold jE at this;rw[sc]at this;exact this
 have cl:=hC.1 4 _ rfl;clear BS hC hO jr;go_wp2_with(at_builtin;rw[<-kx];refine cI rfl 91 rfl iu 1 underlying91 hiu uz0 uz1 uz2 rfl aU Hv rfl (aa Gw) w2.heap.size 1 1 [.U d] rfl rfl (aa tF) (fun u hu=>by simp at hu;subst hu;rfl) ic ae ae ?_);intro v' w9 dh hg lG;rw[<-kx]at hg;have sn:=jE.snoc (sc oV i q5) dh;obtain⟨pN,cN,e9⟩:=sn.form;rw[ig,sc]at e9;subst e9;have C9:=C3.grown ae hg (fun e=>by have:=(aa OP nb e.symm).1;omega);have B9:Hid (Bw X w9):=B3.grown hg B3.size (fun b e=>by have:=(aa OP b e).1;have:=aa ZX;omega);have z9:=hg.size;have CT:=af (C9.fK 4 ai (.S pN (i+1) cN));have OT:Hid (jE (nb+1) (w9.setCell ⟨nb,4,none⟩ (.S pN (i+1) cN)) (.S pN (i+1) cN) ((rL oV i q5).1++[d])):=World.ownsRow.kept sn (aD w9 ⟨nb,4,none⟩ _) (.inr fun e=>by have:=(sn.lt nb e).1;omega);have BT:Hid (Bw X (w9.setCell ⟨nb,4,none⟩ (.S pN (i+1) cN))):=B9.setCell (by have:=aa ZX;simp;omega) _;have zT:nb<(w9.setCell ⟨nb,4,none⟩ (.S pN (i+1) cN)).heap.size:=by simp;omega
 have cc:=C9.1 4 _ rfl;have cf:=C9.2;have EL:Hid ((rL oV i q5).1++[d]=(rL oV (i+1) q5).1/\(rL oV (i+1) q5).2=q6):=by show _/\_;rw[rL,aa F6];exact⟨rfl,rfl⟩
 clear dh hg lG sn C9 kx bf cl;go_wp2;go_roundw;exact⟨i+1,c6,_,ae,rfl,by go_num,(by rw[EL.2];exact G6),(by rw[EL.2];exact T6),(by rw[<-EL.1];exact⟨aa CT,aa OT⟩),BT,zT⟩;exact bG};{
 have bp2:=du i H
 skip
 have eiH:H=i:=ae;subst eiH;obtain⟨hC,hO⟩:=aa jr;obtain⟨pH,cH,e9⟩:=hO.form;rw[sc]at e9;subst e9;obtain⟨HL,eHL⟩:∃L,Hid ((rL oV H q5).1=L):=⟨_,bq⟩;rw[aa eHL]at hO;have lHL:Hid (HL.length=H):=by show _=_;rw[<-aa eHL];exact sc _ _ _
 have HC9:=af hC;have HO9:=af hO;clear hC hO jr hi hlh bp2;obtain⟨ep,q7,c7,F7,G7,T7⟩:=YC en Si;obtain⟨ge,q8,c8,F8,G8,T8⟩:=YC en T7;go_wp2_with fail;refine(uf en (aa HR _ b8) hb hl Si Ei F7 G7).mono ?_;rintro z9 y5⟨rfl,rfl⟩;go_wp2_with fail;refine(uf en (aa HR _ b8) hb hl T7 G7 F8 G8).mono ?_;rintro z9 y6⟨rfl,rfl⟩;obtain⟨nd,by2⟩:∃nd:aB,Hid (nd=⟨PP,VV,ow,mo,HL,ep,ge,[]⟩):=⟨_,bq⟩;have ESP:Hid (fI (j+1) o7=some (ns++[nd],q8)):=MT Em (by rw[oc];simp only[aa F1,aa F2,aa F3,aa F4,aa F5];rw[bH (by rw[Ey];exact⟨aa HN5,ae⟩)];simp only[uk,aa eHL,aa F7,aa F8];rw[aa by2])
 have CA:=HC9.fK 5 ai (.U ep);have CB:=CA.fK 6 ai (.U ge);obtain⟨Z,hZ⟩:=au ((y6.setCell ⟨nb,5,none⟩ (.U ep)).setCell ⟨nb,6,none⟩ (.U ge));rw[<-hZ]at CB;have BZ:Bw X Z:=by rw[hZ];exact(Bi.setCell (by have:=aa ZX;simp;omega) _).setCell (by have:=aa ZX;simp;omega) _
 have OZ:jE (nb+1) Z (.S pH H cH) HL:=by rw[hZ];have o1:=World.ownsRow.kept HO9 (aD y6 ⟨nb,5,none⟩ (.U ep)) (.inr fun e=>by have:=(HO9.lt nb e).1;omega);exact World.ownsRow.kept o1 (aD _ ⟨nb,6,none⟩ (.U ge)) (.inr fun e=>by have:=(o1.lt nb e).1;omega)
 have zZ:nb<Z.heap.size:=by rw[hZ];simpa using zi
 have CZs:=C7.below (by have:=aa ZX;omega) BZ;obtain⟨v3,kx⟩:=au (Z.alloc (.cells #[.S pP NP cP,.S pV NV cV,.U ow,.I mo,.S pH H cH,.U ep,.U ge,.S none 0 0] 93));have hbz:=dO kx;have BS:∀i u,([.S pP NP cP,.S pV NV cV,.U ow,.I mo,.S pH H cH,.U ep,.U ge,.S none 0 0]:List Value)[i]?=some u->v3.cell? ⟨Z.heap.size,i,none⟩=some u:=by rw[kx];exact nQ
 have ezz:Z.heap.size=y6.heap.size:=by rw[hZ];simp
 rw[ezz]at BS;have tF:=af BS;have z3:v3.heap.size=Z.heap.size+1:=by rw[kx];simp
 have BX3:=aj BZ hbz;have Bw3:=aj BX BX3;obtain⟨lH,fH⟩:=jE.pu (OZ.below hbz);have zXn:=aa ZX;have ELN:Hid (jj v3 nd [.S pP NP cP,.S pV NV cV,.U ow,.I mo,.S pH H cH,.U ep,.U ge,.S none 0 0] (lP++(lV++(lH++[])))/\mL wr.heap.size v3 (lP++(lV++(lH++[])))):=by have k0:=FP.below BX3;have k1:=FV.below BX3;have k4:=fH;rw[<-aa eNP]at k0;rw[<-aa eNV]at k1;rw[<-aa lHL]at k4;have:=jj.mk4 (nd:=⟨PP,VV,ow,mo,HL,ep,ge,[]⟩) (B:=wr.heap.size) k0 k1 k4 (PU.nil v3 v3.heap.size v3.heap.size) ae ae ae ae ae ae ae ae ae ae;dsimp only at this;rw[aa eNP,aa eNV,aa lHL]at this;rw[aa by2];exact this
 obtain⟨row,oL,xh⟩:=HO.app jj.keep Bw3 ELN.1 rfl ELN.2 ae;have OP:=af HO.lt;rw[aa ba5]at oL xh;have To:=af xh;have Gw:=af oL;have C3':=af (CZs.below ae hbz);have nsb:¬sb=nb:=ae;have nbs:¬nb=sb:=ae;have d5:=HC9.1 5 _ rfl;have d6:=HC9.1 6 _ rfl;have d0:=CB.1 0 _ rfl;have d1:=CB.1 1 _ rfl;have d2:=CB.1 2 _ rfl;have d3:=CB.1 3 _ rfl;have d4:=CB.1 4 _ rfl;have d5':=CB.1 5 _ rfl;have d6':=CB.1 6 _ rfl;have d7:=CB.1 7 _ rfl;have df:=HC9.2;have s5:=CZs.1 5 _ rfl;rw[hZ]at d0 d1 d2 d3 d4 d5' d6' d7 s5;have HZ:=af hZ;have EZZ:=af ezz;have BW3:=af Bw3;have HBZ:=af hbz;clear ezz xh BS oL CA CB BZ OZ CZs fH hZ BX3 Bw3 hbz;go_wp2_with(at_builtin;rw[<-aa HZ,<-kx];refine cI rfl 30 rfl io 8 underlying30 hio oz0 oz1 oz2 rfl aU Nv rfl (aa Gw) y6.heap.size 1 1 [.S pP NP cP,.S pV NV cV,.U ow,.I mo,.S pH H cH,.U ep,.U ge,.S none 0 0] rfl rfl (aa tF) (fun u hu=>by simp at hu;rcases hu with rfl|rfl|rfl|rfl|rfl|rfl|rfl|rfl<;>rfl) ic ae ae ?_);intro v' w9 dh hg yJ;have ezz:=aa EZZ;have lG:∀g,v'.ownBlock=some g->Nv.ownBlock=some g\/v3.heap.size<=g:=fun g e=>by have:=yJ g e;rw[kx];simpa using this
 rw[<-kx]at hg;obtain⟨sn,pN,cN,rfl⟩:=aa To v' w9 dh hg lG;have C9:=C3'.grown ae hg (fun e=>by have:=(OP.1 sb e.symm).1;omega);have G9:w4.grownBy w9 (some sb):=iZ (iZ xA (az BW3 none) (fun b e=>by cases e)) hg (fun b e=>.inl (OP.1 b e).1);have CT:=af (C9.fK 5 ai (.S pN (j+1) cN));have OT:=af (sn.Yr jj.keep (sb:=sb) ae 5 (.S pN (j+1) cN));have GT:Hid (w4.grownBy (w9.setCell ⟨sb,5,none⟩ (.S pN (j+1) cN)) (some sb)):=gH G9 (aD w9 ⟨sb,5,none⟩ _);have cc:=C9.1 5 _ rfl;have cf:=C9.2;clear dh hg lG yJ sn C9 G9 kx d0 d1 d2 d3 d4 d5 d6 d5' d6' d7 s5 df;go_wp2;go_roundw;exact⟨j+1,c8,_,_,_,q8,ae,rfl,by go_num,ESP,G8,T8,⟨CT,OT⟩,GT⟩
 case measure=>simp[intOf];omega}}}}}
 {
 have bu:=du j Q
 skip
 have ejQ:Q=j:=ae;subst ejQ;obtain⟨hC,hO⟩:=aa jr;obtain⟨v1',v2',hlen⟩:=uP en hb hl Q S7 Em;obtain⟨pN,cN,evN,-⟩:=id hO.read;rw[hlen]at evN;subst evN;obtain⟨sl,Wn⟩:∃L,Hid ((rL oV K o4).1.map Qc=L):=⟨_,bq⟩;have hSL:Hid (∀s∈sl,s.2=(0,[])):=fun s hs=>by
  rw[<-aa Wn]at hs;obtain⟨i,-,rfl⟩:=iJ.1 hs
  rfl
 have HNS:=af v1';have ES:Hid (xM l=some ((e,g,x),sl,ns,om)):=by
  show _=_;rw[aa SPO,aa Em,aa Wn]
  rfl
 have Mo:Hid (sl.length=K):=by show _=_;rw[<-aa Wn];exact aa HSL
 have Gg:Hid (ns.length=Q):=hlen;obtain⟨L3,OS,xx,hm2⟩:∃L3,OwnT kK 86 3 (sb+1) wr (.S pS K cS) sl L3/\(∀a∈L3.flatten,a.b<w4.heap.size)/\∀b,(Value.slice pS K cS).ownBlock=some b->b<w4.heap.size:=by refine⟨_,?_,fun a' ha=>(O3.lt.2 a' ha).2,fun b bL=>(O3.lt.1 b bL).2⟩;rw[<-aa Wn];exact O3.keep (kK.keep _ _) zg (fun b bL=>xA.block b (O3.lt.1 b bL).2 (by have:=(O3.lt.1 b bL).1;simp;omega)) (fun a' ha=>xA.block _ (O3.lt.2 a' ha).2 (by have:=(O3.lt.2 a' ha).1;simp;omega))
 obtain⟨rs,A1',lvs,aps,hi1⟩:nI wr (.S pS K cS) sl/\∃A,xt wr (.S pS K cS) sl A/\mL (sb+1) wr A/\∀a∈A,a.b<w4.heap.size:=by obtain⟨A,q1,q2,q3⟩:=OS.tY (M:=w4.heap.size) xx hm2;exact⟨OS.se.1,A,q1,q2,q3⟩
 obtain⟨rn,A2',lvn,apn⟩:=hO.no;have FF:Hid (il (sb+1) wr pS K cS pN Q cN sl ns):=⟨A1',A2',rs,rn,lvs,lvn,aps.app (apn.mono ae) ae hi1⟩;have RR:=af (ah rs rn);have C9:=af hC;have R9:=af (R3.grown ae (aa xA) bj);have na:=DD Sm;rw[aa Ea]at na;have NA:=af na.1;have ma:-1<=a/\a<=n:=⟨na.2.2,na.2.1⟩;clear na hC hO jr OS xx hm2 lvs aps hi1 lvn apn rs rn v1' v2' hlen hj aX bu;by_cases h11:a<0;{
 have hn:=NA.1 h11;have hP:dJ l=none:=by rw[dJ,aa ES,yi,bH (fun hh=>hh.1 hn)]
 have HD:=af hP;clear hP;obtain⟨r0,r1,r2,r3,r4,r5,rf⟩:=R9.c6;have BB:=b5;go_wp2;refine fL (by simp[results,results16,go_sem,r0,r1,r2,r3,r4,r5]) rfl (yR HD (oY BB))};{
 skip
 have la:¬om=none:=fun hh=>h11 (NA.2 hh);have HNO:=af la;clear la;obtain⟨B,eB⟩:∃B,Hid (mw e g x 0 sl ns=B):=⟨_,bq⟩;have qi:Hid (∀s∈sl,s.2.2.length<=1048576/\∀e∈s.2.2,aM e.2/\e.2.length<=1048576):=fun s hs=>by have:=aa hSL s hs;rw[this];exact⟨gq _,fun e he=>by simp at he⟩
 have fS:Hid (∀nd∈ns,aM nd.path/\nd.path.length<=1048576/\nd.value.length<=1048576/\nd.holders.length<=1048576/\nd.watchers.length<=1048576):=fun nd br=>by have:=aa HNS nd br;exact⟨this.by0,this.l0,this.l1,this.l4,by rw[this.l7];exact gq _⟩
 obtain⟨k0,k1,k2,k3,k4,k5,-⟩:=C9.c6;go_wp2_with fail;refine(XQ Mo Gg RR.1.rd RR.2 ae ae qi fS eB).mono ?_;rintro z9 u1⟨rfl,qX⟩;have b10:=aj b5 qX;have R10:=af (R9.below ae qX);have C10:=af (C9.below ae qX);have F10:=af (FF.below qX);have bB6:=af (ah (RR.1.below qX) (RR.2.below qX));have zu1:=qX.size;clear qX k0 k1 k2 k3 k4 k5;cases B with
 |false=>
  have hP:dJ l=none:=by rw[dJ,aa ES,yi,bH (fun hh=>by have:=hh.2.1;simp only at this;rw[aa eB]at this;cases this)]
  have HD:=af hP;clear hP;obtain⟨r0,r1,r2,r3,r4,r5,rf⟩:=R10.c6;have BB:=b10;go_wp2;refine fL (by simp[results,results16,go_sem,r0,r1,r2,r3,r4,r5]) rfl (yR HD (oY BB))
 |true=>
  have re:0<=e/\e<18446744073709551616:=by have:=iS (om:=some l);rw[aa E1]at this;exact this
  have rg:0<=g/\g<18446744073709551616:=by have:=iS (om:=o1);rw[aa E2]at this;exact this
  have rx:0<=x/\x<18446744073709551616:=by have:=iS (om:=o2);rw[aa E3]at this;exact this
  obtain⟨e',rfl⟩:∃v:Nat,e=(v:Int):=⟨e.toNat,ae⟩;obtain⟨g',rfl⟩:∃v:Nat,g=(v:Int):=⟨g.toNat,ae⟩;obtain⟨x',rfl⟩:∃v:Nat,x=(v:Int):=⟨x.toNat,ae⟩;have HSM:=af (JZ eB HNS);obtain⟨M,eM⟩:∃M,Hid ((De e' g' x' sl ns).length=M):=⟨_,bq⟩;obtain⟨k0,k1,k2,k3,k4,k5,-⟩:=C10.c6;go_wp2_with fail;refine(VI ae ae ae Mo Gg bB6.1.rd bB6.2 (af HSM.w) eM).mono ?_;rintro z9 u2⟨pE,cE,rfl,oE,Qd⟩;have b11:=aj b10 Qd;have R11:=af (R10.below ae Qd);have C11:=af (C10.below ae Qd);have F11:=af (F10.below Qd);have zu2:=Qd.size;have RE:=af oE.rd;clear Qd oE k0 k1 k2 k3 k4 k5;go_wp2_with fail;refine(ly eM en RE (aa HR _ b11) (Tu ae ae ae HSM HNS) hb).mono ?_;rintro z9 u3⟨rfl,hu3⟩;have b12:=aj b11 hu3;have R12:=af (R11.below ae hu3);have C12:=af (C11.below ae hu3);have F12:=af (F11.below hu3);have zu3:=hu3.size;clear hu3;by_cases hEq:De e' g' x' sl ns=l;{
 have hd:decide (De e' g' x' sl ns=l)=true:=by simpa using hEq
 have hP:dJ l=some (((e':Int),(g':Int),(x':Int)),sl,ns):=by rw[dJ,aa ES,yi,bN ⟨aa HNO,aa eB,by simpa using hEq⟩]
 have HD:Hid (Gn (dJ l)=⟨e',g',x',0,sl,ns⟩/\Gp (dJ l)=0):=by rw[hP];exact⟨rfl,rfl⟩
 rw[hd];obtain⟨r0,r1,r2,r3,r4,r5,rf⟩:=R12.c6;obtain⟨k0,k1,k2,k3,k4,k5,-⟩:=C12.c6;have q1:¬w.heap.size=sb:=ae;have q2:¬sb=w.heap.size:=ae;clear hP hd hEq;go_wp2;obtain⟨Z,hZ⟩:=au ((((((u3.setCell ⟨w.heap.size,0,none⟩ (.U e')).setCell ⟨w.heap.size,1,none⟩ (.U g')).setCell ⟨w.heap.size,2,none⟩ (.U x')).setCell ⟨w.heap.size,3,none⟩ (.I 0)).setCell ⟨w.heap.size,4,none⟩ (.S pS K cS)).setCell ⟨w.heap.size,5,none⟩ (.S pN Q cN));have hkZ:∀z,z≠w.heap.size->Z.heap[z]?=u3.heap[z]?:=fun z hz=>by
  rw[hZ]
  iterate 6 rw[fy _ _ _ _ hz]
 refine fL (v:=.tuple #[gh e' g' x' 0 (.S pS K cS) (.S pN Q cN),.I 0]) (by simp[results,results16,go_sem,r0,r1,r2,r3,r4,r5]) rfl ⟨?_,?_⟩;{rw[<-hZ,HD.1,HD.2];have f:=(F12.keep (w':=Z) (fun z hz _=>hkZ z ae)).mono (B':=w.heap.size) ae;rw[<-aa Mo,<-aa Gg]at f⊢;exact⟨pS,cS,pN,cN,rfl,f⟩};{exact(((((b12.setCell ai _).setCell ai _).setCell ai _).setCell ai _).setCell ai _).setCell ai _}};{
 have hd:decide (De e' g' x' sl ns=l)=false:=by simpa using hEq
 rw[hd];have hP:dJ l=none:=by rw[dJ,aa ES,yi,bH (fun hh=>hEq (by simpa using hh.2.2))]
 have HD:=af hP;clear hP;obtain⟨r0,r1,r2,r3,r4,r5,rf⟩:=R12.c6;have BB:=b12;go_wp2;refine fL (by simp[results,results16,go_sem,r0,r1,r2,r3,r4,r5]) rfl (yR HD (oY BB))}}}}}}}}}}
end Go.Proofs.YtjjnidignljppaaGreatDoor
