import Derived.Test.YtjjnidignljppaaGreatDoorK23
import Derived.Test.YtjjnidignljppaaGreatDoorK19
namespace Go.Proofs.YtjjnidignljppaaGreatDoor
set_option maxHeartbeats 8000000
set_option linter.all false
set_option maxRecDepth 100000
open Go.ChangeShapes Go.WideShapes Go.ChangeAt Go.RowKit Go.Proofs.Tryz
variable {A A2 l:List Lf}{B:Bool}{a b:Nat}{e f g hi k lo s vs:Int}{p:OA}{v:Value}{xs:List Ev}
def bR(w:World)(A:List Lf)(k:Int):Prop:=∀(i:Nat)(a:Lf),A[i]?=some a->w.cell? ⟨a.b,a.o,none⟩=some (.int a.k (mkV a.k (k+i)))
def bR.below{w w':World}(h:bR w A k)(hb:Bw w w'):bR w' A k:=fun i a ha=>ag (h i a ha) hb
def bR.app{w:World}(h:bR w (A++A2) k):bR w A k/\bR w A2 (k+A.length):=by
 refine⟨fun i a ha=>h i a ?_,fun i a ha=>?_⟩;{rw[kT (aT.1 ha).1];exact ha};{
 have:=h (A.length+i) a (by rw[mE ae];simpa using ha);rw[this]
 congr 3
 push_cast
 omega}
def bR.cons{w:World}{a:Lf}(h:bR w (a::A2) k):w.cell? ⟨a.b,a.o,none⟩=some (.int a.k (mkV a.k k))/\bR w A2 (k+1):=by
 have h1:=(bR.app (A:=[a]) (A2:=A2) (by simpa using h));refine⟨?_,by simpa using h1.2⟩;have:=h1.1 0 a ai;simpa using this
def bR.flat{w:World}{Ls:List (List Lf)}{j:Nat}(h:bR w Ls.flatten k)(nE:(Ls.take (j+1)).flatten=(Ls.take j).flatten++l):bR w l (k+(Ls.take j).flatten.length):=by
 have e:Ls.flatten=(Ls.take j).flatten++(l++(Ls.drop (j+1)).flatten):=by rw[<-tj,<-nE,<-Jf,BH]
 rw[e]at h;exact h.app.2.app.1
def Mk.held{w w':World}(h:Mk w w' A k)(br:(A.map fun a=>(a.b,a.o)).Nodup):bR w' A k:=h.val br
def Ir.below{w w':World}{x:Ev}(h:Ir w x b a l)(hb:Bw w w'):Ir w' x b a l:=h.mk (Mk.dL hb 0) (cQ.nil _)
def Da.below{w w':World}(h:Da w v xs l)(hb:Bw w w'):Da w' v xs l:=Da.mk h (Mk.dL hb 0) (cQ.nil _)
def Gv.below{w w':World}{x:aR}(h:Gv w x b a l)(hb:Bw w w'):Gv w' x b a l:=h.mk (Mk.dL hb 0) (cQ.nil _)
def xt.below{w w':World}{xs:List aR}(h:xt w v xs l)(hb:Bw w w'):xt w' v xs l:=xt.mk h (Mk.dL hb 0) (cQ.nil _)
def Ip.below{w w':World}{x:aB}(h:Ip w x b a l)(hb:Bw w w'):Ip w' x b a l:=h.mk (Mk.dL hb 0) (cQ.nil _)
def xD.below{w w':World}{xs:List aB}(h:xD w v xs l)(hb:Bw w w'):xD w' v xs l:=xD.mk h (Mk.dL hb 0) (cQ.nil _)
def sF{c n:Nat}{xs:LI}{w:World}(h:Qw (.S p n c) xs A)(hA:bR w A k)(k0:0<=k)(k1:k+A.length<=100000000):Cp 76 #[.S p n c,.I k] w fun e w'=>e=.returned (.I (k+A.length))/\Bw w w':=by
 have OK:=h.len (fun x b a l hl=>by rw[show l=_ from hl];simp);obtain⟨Ls,en,lL,eA,fD⟩:=h.at;have vP:=af fD;have HA:=af (show bR w Ls.flatten k by rw[<-eA];exact hA);have EA:=af eA;have K1:k+(Ls.flatten.length:Int)<=100000000:=by rw[<-eA];exact k1
 have hn:n<=100000000:=ae;have LL:=af lL;go_enter func76,ntmps76;go_wp2
 go_loopw[1,5](fun kk i wr=>∃j:Nat,j<=n/\i=.I j/\kk=.I (k+(((Ls.take j).flatten.length:Nat):Int))/\Bw w wr) (fun _ i _=>n-(intOf i).toNat)
 exact⟨0,gq _,rfl,ai,cW _ _⟩;{
 obtain⟨j,hj,rfl,rfl,aG⟩:=hrel;have hle:=aZ Ls j;by_cases aX:j<n;{
 have bu:=aP j n;obtain⟨b,o,x,l,rfl,hx,hl,hP,nE,gG⟩:=aa vP j aX;have hh:=(HA.flat nE).below aG;have Ie:(Ls.take (j+1)).flatten.length=(Ls.take j).flatten.length+l.length:=by rw[nE,ig]
 have oO:k+((Ls.take j).flatten.length:Int)+(l.length:Int)<=100000000:=by have:=aZ Ls (j+1);omega
 have HT:=af Ie;generalize hT:(Ls.take j).flatten.length=T at*;have hT0:0<=k+(T:Int):=ae;obtain rfl:l=[⟨b,o+j,.u8⟩]:=by rw[show l=_ from hP,By]
 have qL:wr.cell? ⟨b,o+j,none⟩=some (.int .u8 ((k+(T:Int)) % 256)):=hh.cons.1;have cg:(((k+(T:Int)) % 256) != ((k+(T:Int)) % 256))=false:=ai;have ce0:k+(T:Int)+1<=100000000:=by simpa using oO
 go_wp2;go_roundw;exact⟨j+1,ae,by go_num,by rw[aa HT];first|go_num|(simp;omega)|(congr 1;simp;omega),by first|exact aG|exact below_drewN aG⟩;exact bG};{
 have e:j=n:=ae;subst e;have e2:(Ls.take j).flatten=A:=by rw[<-aa LL,mF];exact EA.symm
 rw[e2];go_wp2;go_ret;exact⟨rfl,aG⟩}}
def uA{c n:Nat}{xs:LI}{w:World}(h:WS (.S p n c) xs A)(hA:bR w A k)(k0:0<=k)(k1:k+A.length<=100000000):Cp 77 #[.S p n c,.I k] w fun e w'=>e=.returned (.I (k+A.length))/\Bw w w':=by
 have OK:=h.len (fun x b a l hl=>by rw[show l=_ from hl];simp);obtain⟨Ls,en,lL,eA,fD⟩:=h.at;have vP:=af fD;have HA:=af (show bR w Ls.flatten k by rw[<-eA];exact hA);have EA:=af eA;have K1:k+(Ls.flatten.length:Int)<=100000000:=by rw[<-eA];exact k1
 have hn:n<=100000000:=ae;have LL:=af lL;go_enter func77,ntmps77;go_wp2
 go_loopw[1,5](fun kk i wr=>∃j:Nat,j<=n/\i=.I j/\kk=.I (k+(((Ls.take j).flatten.length:Nat):Int))/\Bw w wr) (fun _ i _=>n-(intOf i).toNat)
 exact⟨0,gq _,rfl,ai,cW _ _⟩;{
 obtain⟨j,hj,rfl,rfl,aG⟩:=hrel;have hle:=aZ Ls j;by_cases aX:j<n;{
 have bu:=aP j n;obtain⟨b,o,x,l,rfl,hx,hl,hP,nE,gG⟩:=aa vP j aX;have hh:=(HA.flat nE).below aG;have Ie:(Ls.take (j+1)).flatten.length=(Ls.take j).flatten.length+l.length:=by rw[nE,ig]
 have oO:k+((Ls.take j).flatten.length:Int)+(l.length:Int)<=100000000:=by have:=aZ Ls (j+1);omega
 have HT:=af Ie;generalize hT:(Ls.take j).flatten.length=T at*;have hT0:0<=k+(T:Int):=ae;obtain rfl:l=[⟨b,o+j,.u64⟩]:=by rw[show l=_ from hP,By]
 have qL:wr.cell? ⟨b,o+j,none⟩=some (.U (k+(T:Int))):=hh.cons.1;have cg:((k+(T:Int)) != (k+(T:Int)))=false:=ai;have ce0:k+(T:Int)+1<=100000000:=by simpa using oO
 go_wp2;go_roundw;exact⟨j+1,ae,by go_num,by rw[aa HT];first|go_num|(simp;omega)|(congr 1;simp;omega),by first|exact aG|exact below_drewN aG⟩;exact bG};{
 have e:j=n:=ae;subst e;have e2:(Ls.take j).flatten=A:=by rw[<-aa LL,mF];exact EA.symm
 rw[e2];go_wp2;go_ret;exact⟨rfl,aG⟩}}
def Ic{c n:Nat}{w:World}(h:Da w (.S p n c) xs A)(hA:bR w A k)(k0:0<=k)(k1:k+A.length<=100000000):Cp 75 #[.S p n c,.I k] w fun e w'=>e=.returned (.I (k+A.length))/\Bw w w':=by
 have OK:=h.len (fun x b a l hl=>hl.pos);obtain⟨Ls,en,lL,eA,fD⟩:=h.at;have vP:=af fD;have HA:=af (show bR w Ls.flatten k by rw[<-eA];exact hA);have EA:=af eA;have K1:k+(Ls.flatten.length:Int)<=100000000:=by rw[<-eA];exact k1
 have hn:n<=100000000:=ae;have LL:=af lL;clear h fD hA eA en lL OK;go_enter func75,ntmps75;go_wp2
 go_loopw[1,5](fun kk i wr=>∃j:Nat,j<=n/\i=.I j/\kk=.I (k+(((Ls.take j).flatten.length:Nat):Int))/\Bw w wr) (fun _ i _=>n-(intOf i).toNat)
 exact⟨0,gq _,rfl,ai,cW _ _⟩;{
 obtain⟨j,hj,rfl,rfl,aG⟩:=hrel;have hle:=aZ Ls j;by_cases aX:j<n;{
 have bu:=aP j n;obtain⟨b,o,x,l,rfl,hx,hl,hP,nE,gG⟩:=aa vP j aX;have hh:=(HA.flat nE).below aG;have Ie:(Ls.take (j+1)).flatten.length=(Ls.take j).flatten.length+l.length:=by rw[nE,ig]
 have oO:k+((Ls.take j).flatten.length:Int)+(l.length:Int)<=100000000:=by have:=aZ Ls (j+1);omega
 have HT:=af Ie;generalize hT:(Ls.take j).flatten.length=T at*;clear hT hx hl nE gG Ie;have hT0:0<=k+(T:Int):=ae;have Wi:=hP.below aG;obtain⟨q,d,lb,rfl,hd,V8⟩:=Wi;have HD:=af hd;have Gx:=af V8;clear hd V8;have hlen:k+(T:Int)+(1+(lb.length:Int))<=100000000:=by simp only[ig,iU]at oO;omega
 clear oO hP;have qL:wr.cell? ⟨b,o+j*2,none⟩=some (.I (k+(T:Int))):=(bR.cons hh).1;have t0:=(bR.cons hh).2;have s1:bR wr lb (k+(T:Int)+1):=t0;have HS:=af (s1);have tF:=af (qL);have W0:=af (cW wr.heap.size wr);clear hh t0 s1 qL;have qL:=ag tF W0;have aQ1:((k+(T:Int)) != (k+(T:Int)))=false:=ai;have hd1:=ag HD W0;go_wp2_with fail;clear qL aQ1 hd1;refine(sF Gx (HS.below W0) ae ae).mono ?_;rintro e v0⟨rfl,N0⟩;have BV0:=af (aj W0 N0);have aE8:¬k+(T:Int)+1+(lb.length:Int)<0:=ae;clear N0;have b1:=aj aG BV0;clear aG;go_wp2;go_roundw;exact⟨j+1,ae,by go_num,by rw[aa HT];first|go_num|(simp;omega)|(congr 1;simp;omega),by first|exact b1|exact below_drewN b1⟩;exact bG};{
 have e:j=n:=ae;subst e;have e2:(Ls.take j).flatten=A:=by rw[<-aa LL,mF];exact EA.symm
 rw[e2];clear hle vP HA;go_wp2;go_ret;exact⟨rfl,aG⟩}}
def CO{c n:Nat}{xs:List aR}{w:World}(h:xt w (.S p n c) xs A)(hA:bR w A k)(k0:0<=k)(k1:k+A.length<=100000000):Cp 35 #[.S p n c,.I k] w fun e w'=>e=.returned (.I (k+A.length))/\Bw w w':=by
 have OK:=h.len (fun x b a l hl=>hl.pos);obtain⟨Ls,en,lL,eA,fD⟩:=h.at;have vP:=af fD;have HA:=af (show bR w Ls.flatten k by rw[<-eA];exact hA);have EA:=af eA;have K1:k+(Ls.flatten.length:Int)<=100000000:=by rw[<-eA];exact k1
 have hn:n<=100000000:=ae;have LL:=af lL;clear h fD hA eA en lL OK;go_enter func35,ntmps35;go_wp2
 go_loopw[1,5](fun kk i wr=>∃j:Nat,j<=n/\i=.I j/\kk=.I (k+(((Ls.take j).flatten.length:Nat):Int))/\Bw w wr) (fun _ i _=>n-(intOf i).toNat)
 exact⟨0,gq _,rfl,ai,cW _ _⟩;{
 obtain⟨j,hj,rfl,rfl,aG⟩:=hrel;have hle:=aZ Ls j;by_cases aX:j<n;{
 have bu:=aP j n;obtain⟨b,o,x,l,rfl,hx,hl,hP,nE,gG⟩:=aa vP j aX;have hh:=(HA.flat nE).below aG;have Ie:(Ls.take (j+1)).flatten.length=(Ls.take j).flatten.length+l.length:=by rw[nE,ig]
 have oO:k+((Ls.take j).flatten.length:Int)+(l.length:Int)<=100000000:=by have:=aZ Ls (j+1);omega
 have HT:=af Ie;generalize hT:(Ls.take j).flatten.length=T at*;clear hT hx hl nE gG Ie;have hT0:0<=k+(T:Int):=ae;have Wi:=hP.below aG;obtain⟨q,d,lb,rfl,hd,V8⟩:=Wi;have HD:=af hd;have Gx:=af V8;clear hd V8;have hlen:k+(T:Int)+(2+(lb.length:Int))<=100000000:=by simp only[ig,iU]at oO;omega
 clear oO hP;have qL:wr.cell? ⟨b,o+j*3,none⟩=some (.U (k+(T:Int))):=(bR.cons hh).1;have t0:=(bR.cons hh).2;have iD:wr.cell? ⟨b,o+j*3+1,none⟩=some (.I (k+(T:Int)+1)):=(bR.cons t0).1;have t1:=(bR.cons t0).2;have s2:bR wr lb (k+(T:Int)+1+1):=t1;have HS:=af (s2);have tF:=af (ah qL (iD));have W0:=af (cW wr.heap.size wr);clear hh t0 t1 s2 qL iD;have qL:=ag tF.1 W0;have aQ1:((k+(T:Int)) != (k+(T:Int)))=false:=ai;have iD:=ag tF.2 W0;have bo4:((k+(T:Int)+1) != (k+(T:Int)+1))=false:=ai;have hd2:=ag HD W0;go_wp2_with fail;clear qL aQ1 iD bo4 hd2;have lv0:=Gx.below W0;refine(Ic lv0 (HS.below W0) ae ae).mono ?_;rintro e v0⟨rfl,N0⟩;have BV0:=af (aj W0 N0);have aE8:¬k+(T:Int)+1+1+(lb.length:Int)<0:=ae;clear N0;have b1:=aj aG BV0;clear aG;go_wp2;go_roundw;exact⟨j+1,ae,by go_num,by rw[aa HT];first|go_num|(simp;omega)|(congr 1;simp;omega),by first|exact b1|exact below_drewN b1⟩;exact bG};{
 have e:j=n:=ae;subst e;have e2:(Ls.take j).flatten=A:=by rw[<-aa LL,mF];exact EA.symm
 rw[e2];clear hle vP HA;go_wp2;go_ret;exact⟨rfl,aG⟩}}
abbrev bv9(se pa:Bool)(lo hi vs:Int)(sq jo:Bool):Value:=.agg #[.bool se,.bool pa,.I lo,.I hi,.I vs,.bool sq,.bool jo]
def zs(se:Bool)(s:Int):se=true\/(se=false/\s=0)\/(se=false/\(s==0)=false):=by
 cases se;{exact .inr ((zf 0 s).imp (⟨rfl,·⟩) (⟨rfl,·⟩))};{exact .inl rfl}
def zp(pa:Bool)(n:Nat):pa=true\/(pa=false/\n=0)\/(pa=false/\((n:Int)==0)=false):=by
 rcases zs pa n with h|⟨h,h2⟩|h;{exact .inl h};{exact .inr (.inl ⟨h,ae⟩)};{exact .inr (.inr h)}
def ad2{se pa:Bool}{sq jo:Bool}{p q:OA}{n m c d:Nat}{w:World}(eB:Hid (fmF se pa lo hi vs sq s f n m e g=B)):Cp 193 #[bv9 se pa lo hi vs sq jo,ya k s (.S p n c) f (.S q m d) e g] w fun r w'=>r=.returned (.bool B)/\Bw w w':=by
 rcases zs se s with rfl|⟨rfl,rfl⟩|⟨rfl,dd⟩
 all_goals(first|(have x:=dd;clear x)|rcases zp pa n with rfl|⟨rfl,rfl⟩|⟨rfl,dd⟩)
 all_goals(first|(have x:=dd;clear x)|rcases yy (lo<=f)with h1|dd)
 all_goals(first|(have x:=dd;clear x)|rcases yy (f<=hi)with h2|dd)
 all_goals(first|(have x:=dd;clear x)|rcases yy ((m:Int)<=vs)with h3|dd)
 all_goals(first|(have x:=dd;clear x)|rcases zs sq e with rfl|⟨rfl,rfl⟩|⟨rfl,dd⟩)
 all_goals(first|(have x:=dd;clear x)|rcases zf 0 g with rfl|hg)
 all_goals(cases B<;>first|(exfalso;have h:=aa eB;clear eB;simp_all[fmF]<;>omega)|clear eB)
 all_goals(go_enter func193,ntmps193;go_wp2;go_ret;exact⟨rfl,(ay.alloc ao _).alloc ai _⟩)
abbrev vM(w:World)(G o:Nat)(se pa:Bool)(lo hi vs:Int)(sq jo:Bool):Prop:=w.cell? ⟨G,o,none⟩=some (.bool se)/\w.cell? ⟨G,o+1,none⟩=some (.bool pa)/\w.cell? ⟨G,o+2,none⟩=some (.I lo)/\w.cell? ⟨G,o+3,none⟩=some (.I hi)/\w.cell? ⟨G,o+4,none⟩=some (.I vs)/\w.cell? ⟨G,o+5,none⟩=some (.bool sq)/\w.cell? ⟨G,o+6,none⟩=some (.bool jo)
def vM.below{w w':World}{G o:Nat}{se pa:Bool}{sq jo:Bool}(h:vM w G o se pa lo hi vs sq jo)(hb:Bw w w'):vM w' G o se pa lo hi vs sq jo:=
 ⟨ag h.1 hb,ag h.2.1 hb,ag h.2.2.1 hb,ag h.2.2.2.1 hb,ag h.2.2.2.2.1 hb,ag h.2.2.2.2.2.1 hb,ag h.2.2.2.2.2.2 hb⟩
def nS{k:Nat}(jQ:1<=k)(qK:k<=13){se pa:Bool}{sq jo:Bool}{p q:OA}{n m c d:Nat}{w:World}(hT:vM w 0 (k*7) se pa lo hi vs sq jo)(eB:Hid (fmF se pa lo hi vs sq s f n m e g=B)):Cp 174 #[ya k s (.S p n c) f (.S q m d) e g] w fun r w'=>r=.returned (.bool B)/\Bw w w':=by
 have h1:=dw 1 k;have h2:(k:Int)<=13:=ae;have h3:(k:Int)<14:=ae;have h4:k<14:=ae;have h5:=dw 0 k;go_enter func174,ntmps174;go_wp2_with fail;obtain⟨W,hW⟩:=au (w.alloc (.cells #[.I k,.U s,.S p n c,.I f,.S q m d,.U e,.U g] 56));have bW:=dO hW;have hA:rW W w.heap.size (.I k) (.U s) (.S p n c) (.I f) (.S q m d) (.U e) (.U g):=by rw[hW];simp[rW,go_sem]
 have hTW:=hT.below bW;rw[<-hW];clear hW hT
 go_region_held3 (fun w'=>rW w' w.heap.size (.I k) (.U s) (.S p n c) (.I f) (.S q m d) (.U e) (.U g)/\vM w' 0 (k*7) se pa lo hi vs sq jo) (first|exact⟨hA,hTW⟩|exact⟨Pk,hT1⟩)
  (first|(go_at_call 193;refine(ad2 eB).mono ?_;rintro r w1⟨rfl,aA⟩;have bL:Bw W w1:=(by first|exact aA|exact aj (cW W.heap.size W).drew aA);have Pk:=hA.below bL;have hT1:=hTW.below bL))
 have b1:=aj bW bL;clear hA hTW Pk hT1 aA bL bW;go_wp2;go_ret;exact⟨rfl,b1⟩
def DJ{p q:OA}{n m c d:Nat}{w:World}(hk:k<1\/13<k):Cp 174 #[ya k s (.S p n c) f (.S q m d) e g] w fun r w'=>r=.returned (.bool false)/\Bw w w':=by
 have b0:∀o:Obj,Bw w (w.alloc o):=fun o=>ay.alloc ao _;by_cases h1:k<1;{
 have h1':¬(1:Int)<=k:=ae;have h1d:decide ((1:Int)<=k)=false:=by simp;omega
 go_enter func174,ntmps174;go_wp2_with fail
 go_region
 all_goals(
  go_wp2;go_ret;exact⟨rfl,by first|exact b0 _|exact(b0 _).drew⟩)}
 {
 have h1':(1:Int)<=k:=ae;have h2':¬k<=13:=ae;have h1d:decide ((1:Int)<=k)=true:=by simp;omega
 have h2d:decide (k<=(13:Int))=false:=by simp;omega
 go_enter func174,ntmps174;go_wp2_with fail
 go_region
 all_goals(
  go_wp2;go_ret;exact⟨rfl,by first|exact b0 _|exact(b0 _).drew⟩)}
def qT.news{w:World}{a:Addr}{c:Nat}{l:LI}(h:qT w (.S (some a) l.length c) l):(l.map (Value.int .u64)).length=l.length*1/\(∀j u,(l.map (Value.int .u64))[j]?=some u->w.cell? (a.add j)=some u)/\(∀u∈l.map (Value.int .u64),u.oneCell'=true):=by
 refine⟨ai,fun j u hu=>?_,fun u hu=>by obtain⟨n,-,rfl⟩:=iJ.1 hu;rfl⟩;have hj:j<l.length:=by have:=(aT.1 hu).1;simpa using this
 obtain⟨p,c',e,hd⟩:=h;simp only[dU]at e;obtain⟨rfl,-,-⟩:=e;rcases hd with h0|⟨b,o,e1,hc⟩;{rw[h0]at hj;simp at hj};{simp only[jU]at e1;subst e1;rw[Addr.add_lit,hc j hj,<-hu];simp[gj,hj]}
theorem Uq{c n:Nat}{l:LI}(en:Hid (l.length=n)){w:World}(h:qT w (.S p n c) l)(hl:n<=1048576):Cp 136 #[.S p n c] w fun e w'=>∃p' c',e=.returned (.S p' n c')/\kM w.heap.size w' (.S p' n c') l/\Bw w w':=by
 have e:=aa en;subst e;obtain⟨i,hi,nO,iL,ju⟩:=info_parts Tryz.infoU64;go_enter func136,ntmps136;have Hz:w.ownsRow w.heap.size 28 1 (.S none 0 0) 0 []:=World.ownsRow_nil w _ _ 1;cases p with
 |none=>
  have e0:l=[]:=by obtain⟨p,c',e,hd⟩:=h;simp only[dU]at e;rcases hd with h0|⟨b,o,e1,hc⟩;{exact h0};{rw[e1]at e;simp at e}
  subst e0;have Xo:=fN (P:=prog) 91 i underlying91 hi c Hz;go_wp2_with(at_builtin;refine Lib.wpList_append_run w rfl _ _ 91 91 rfl _ _ rfl rfl _ _ Xo ?_);go_ret;exact⟨_,_,rfl,kM.nil _ _,cW _ _⟩
 |some ad=>
  obtain⟨n1,n2,n3⟩:=h.news;obtain⟨v',w',hr,h1,h2,h3⟩:=xT (ty:=91) i hi nO iL ju Hz (ZT.nil w) c n1 n2 n3 ic ae ao;go_wp2_with(at_builtin;refine Lib.wpList_append_run w rfl _ _ 91 91 rfl _ _ rfl rfl _ _ hr ?_);have ho:kM w.heap.size w' v' l:=⟨by simpa[jE]using h1,h3⟩;obtain⟨p',c',rfl⟩:=ho.form;have hb:Bw w w':=⟨h2.os,h2.tape,h2.output,h2.size,fun k hk=>h2.block k hk (by simp[Value.ownBlock])⟩;clear h1 h2 h3 hr n1 n2 n3 h;go_wp2;go_ret;exact⟨_,_,rfl,ho,hb⟩
def Km{c n:Nat}{xs:List aB}{w:World}(h:xD w (.S p n c) xs A)(hA:cQ w A)(k0:0<=k)(k1:k+A.length<=100000000):Cp 34 #[.S p n c,.I k] w fun e w'=>e=.returned (.I (k+A.length))/\Mk w w' A k:=by
 have OK:=h.len (fun x b a l hl=>hl.pos);obtain⟨Ls,en,lL,eA,fD⟩:=h.at;have vP:=af fD;have HA:=af hA;have EA:=af eA;have K1:k+(Ls.flatten.length:Int)<=100000000:=by rw[<-eA];exact k1
 have hn:n<=100000000:=ae;have LL:=af lL;clear h fD hA eA en lL OK;go_enter func34,ntmps34;go_wp2
 go_loopw[1,5](fun kk i wr=>∃j:Nat,j<=n/\i=.I j/\kk=.I (k+(((Ls.take j).flatten.length:Nat):Int))/\Hid (Mk w wr (Ls.take j).flatten k)) (fun _ i _=>n-(intOf i).toNat)
 exact⟨0,gq _,rfl,ai,Mk.refl _ _⟩;{
 obtain⟨j,hj,rfl,rfl,hM⟩:=hrel;have hle:=aZ Ls j;by_cases aX:j<n;{
 have bu:=aP j n;obtain⟨b,o,x,l,rfl,hx,hl,hP,nE,gG⟩:=aa vP j aX;have lE:cQ w (Ls.take j).flatten:=HA.sub (fun a ha=>by rw[aa EA];exact e8 ha);have OM:cQ w l:=HA.sub gG;have jr:cQ wr l:=OM.mk hM lE;have Wi:=hP.mk hM lE;have Ie:(Ls.take (j+1)).flatten.length=(Ls.take j).flatten.length+l.length:=by rw[nE,ig]
 have oO:k+((Ls.take j).flatten.length:Int)+(l.length:Int)<=100000000:=by have:=aZ Ls (j+1);omega
 have HT:=af Ie;have HPW:Hid (∀w',Mk wr w' l (k+((Ls.take j).flatten.length:Int))->Mk w w' (Ls.take (j+1)).flatten k):=by intro w' hw';rw[nE];exact hM.trans hw' lE OM
 generalize hT:(Ls.take j).flatten.length=T at*;clear hT hx hl hP nE gG lE hM Ie OM;have hT0:0<=k+(T:Int):=ae;obtain⟨p0,c0,p1,c1,p4,c4,p7,c7,l0,l1,l4,l7,rfl,⟨h1,h2⟩,⟨h3,h4⟩,⟨h5,h6⟩,⟨h7,h8⟩⟩:=Wi;have HD:=af (ah h1 (ah h3 (ah h5 h7)));have Gx:=af (ah h2 (ah h4 (ah h6 h8)));clear h1 h2 h3 h4 h5 h6 h7 h8;have hlen:k+(T:Int)+(4+(l0.length:Int)+(l1.length:Int)+(l4.length:Int)+(l7.length:Int))<=100000000:=by simp only[ig,iU]at oO;omega
 clear oO;have mJ:=af jr;have AC0:Hid (Mk wr wr [] (k+(T:Int))):=Mk.refl _ _;clear jr;have IN0:cQ wr (l0++(l1++(⟨b,o+j*8+2,.u64⟩::⟨b,o+j*8+3,.i64⟩::(l4++(⟨b,o+j*8+5,.u64⟩::⟨b,o+j*8+6,.u64⟩::l7))))):=mJ.mk (aa AC0) (mJ.sub jD);have hh0:wr.cell? ⟨b,o+j*8,none⟩=some (.S p0 x.path.length c0):=AC0.head (mJ.sub jD) HD.1;have XC:Hid (Mk wr wr [] (k+(T:Int))):=(aa AC0);have HV0:Hid (cQ wr l0):=(mJ.sub (by intro a ha;simp[ha])).mk (aa XC) (mJ.sub jD);clear IN0;go_wp2_with fail;clear hh0;refine(sj Gx.1 HV0 ae ae).mono ?_;rintro e v0⟨rfl,N0⟩;have AC1:Hid (Mk wr v0 ([]++l0) (k+(T:Int))):=Mk.call (aa XC) N0 (aa mJ) jD (by intro a ha;simp[ha]) (by simp;try omega);clear N0 XC HV0;have IN1:cQ v0 (l0++(l1++(⟨b,o+j*8+2,.u64⟩::⟨b,o+j*8+3,.i64⟩::(l4++(⟨b,o+j*8+5,.u64⟩::⟨b,o+j*8+6,.u64⟩::l7))))):=mJ.mk (aa AC1) (mJ.sub jD);have xy:v0.cell? ⟨b,o+j*8+1,none⟩=some (.S p1 x.value.length c1):=AC1.head (mJ.sub jD) HD.2.1;have AX1:Hid (Mk wr v0 ([]++l0) (k+(T:Int))):=(aa AC1);have HV1:Hid (cQ v0 l1):=(mJ.sub (by intro a ha;simp[ha])).mk (aa AX1) (mJ.sub jD);clear IN1;go_wp2_with fail;clear xy;refine(sj Gx.2.1 HV1 ae ae).mono ?_;rintro e v1⟨rfl,N1⟩;have AC2:Hid (Mk wr v1 (([]++l0)++l1) (k+(T:Int))):=Mk.call (aa AX1) N1 (aa mJ) jD (by intro a ha;simp[ha]) (by simp;try omega);clear N1 AX1 HV1;have IN2:cQ v1 (l0++(l1++(⟨b,o+j*8+2,.u64⟩::⟨b,o+j*8+3,.i64⟩::(l4++(⟨b,o+j*8+5,.u64⟩::⟨b,o+j*8+6,.u64⟩::l7))))):=mJ.mk (aa AC2) (mJ.sub jD);obtain⟨⟨m2,js⟩,Ld⟩:=IN2 ⟨b,o+j*8+2,.u64⟩ ai;obtain⟨⟨m3,Cb⟩,xe⟩:=IN2 ⟨b,o+j*8+3,.i64⟩ ai;dsimp only at js Ld Cb xe;have hh4:v1.cell? ⟨b,o+j*8+4,none⟩=some (.S p4 x.holders.length c4):=AC2.head (mJ.sub jD) HD.2.2.1;have AX2:Hid (Mk wr ((v1.setCell ⟨b,o+j*8+2,none⟩ (.U (k+(T:Int)+(l0.length:Int)+(l1.length:Int)))).setCell ⟨b,o+j*8+3,none⟩ (.I (k+(T:Int)+(l0.length:Int)+(l1.length:Int)+1))) (((([]++l0)++l1)++[⟨b,o+j*8+2,.u64⟩])++[⟨b,o+j*8+3,.i64⟩]) (k+(T:Int))):=(Mk.set (Mk.set (aa AC2) (aa mJ) jD (b:=b) (o:=o+j*8+2) (kd:=.u64) ai (K:=k+(T:Int)+(l0.length:Int)+(l1.length:Int)) (by simp;try omega)) (aa mJ) jD (b:=b) (o:=o+j*8+3) (kd:=.i64) ai (K:=k+(T:Int)+(l0.length:Int)+(l1.length:Int)+1) (by simp;try omega));have HV2:Hid (cQ ((v1.setCell ⟨b,o+j*8+2,none⟩ (.U (k+(T:Int)+(l0.length:Int)+(l1.length:Int)))).setCell ⟨b,o+j*8+3,none⟩ (.I (k+(T:Int)+(l0.length:Int)+(l1.length:Int)+1))) l4):=(mJ.sub (by intro a ha;simp[ha])).mk (aa AX2) (mJ.sub jD);clear IN2;go_wp2_with fail;clear js Ld Cb xe hh4;refine(uh Gx.2.2.1 HV2 ae ae).mono ?_;rintro e v2⟨rfl,N2⟩;have AC3:Hid (Mk wr v2 ((((([]++l0)++l1)++[⟨b,o+j*8+2,.u64⟩])++[⟨b,o+j*8+3,.i64⟩])++l4) (k+(T:Int))):=Mk.call (aa AX2) N2 (aa mJ) jD (by intro a ha;simp[ha]) (by simp;try omega);clear N2 AX2 HV2;have IN3:cQ v2 (l0++(l1++(⟨b,o+j*8+2,.u64⟩::⟨b,o+j*8+3,.i64⟩::(l4++(⟨b,o+j*8+5,.u64⟩::⟨b,o+j*8+6,.u64⟩::l7))))):=mJ.mk (aa AC3) (mJ.sub jD);obtain⟨⟨m5,yK⟩,hf5⟩:=IN3 ⟨b,o+j*8+5,.u64⟩ ai;obtain⟨⟨m6,uY⟩,hf6⟩:=IN3 ⟨b,o+j*8+6,.u64⟩ ai;dsimp only at yK hf5 uY hf6;have hh7:v2.cell? ⟨b,o+j*8+7,none⟩=some (.S p7 x.watchers.length c7):=AC3.head (mJ.sub jD) HD.2.2.2;have AX3:Hid (Mk wr ((v2.setCell ⟨b,o+j*8+5,none⟩ (.U (k+(T:Int)+(l0.length:Int)+(l1.length:Int)+1+1+(l4.length:Int)))).setCell ⟨b,o+j*8+6,none⟩ (.U (k+(T:Int)+(l0.length:Int)+(l1.length:Int)+1+1+(l4.length:Int)+1))) ((((((([]++l0)++l1)++[⟨b,o+j*8+2,.u64⟩])++[⟨b,o+j*8+3,.i64⟩])++l4)++[⟨b,o+j*8+5,.u64⟩])++[⟨b,o+j*8+6,.u64⟩]) (k+(T:Int))):=(Mk.set (Mk.set (aa AC3) (aa mJ) jD (b:=b) (o:=o+j*8+5) (kd:=.u64) ai (K:=k+(T:Int)+(l0.length:Int)+(l1.length:Int)+1+1+(l4.length:Int)) (by simp;try omega)) (aa mJ) jD (b:=b) (o:=o+j*8+6) (kd:=.u64) ai (K:=k+(T:Int)+(l0.length:Int)+(l1.length:Int)+1+1+(l4.length:Int)+1) (by simp;try omega));have HV3:Hid (cQ ((v2.setCell ⟨b,o+j*8+5,none⟩ (.U (k+(T:Int)+(l0.length:Int)+(l1.length:Int)+1+1+(l4.length:Int)))).setCell ⟨b,o+j*8+6,none⟩ (.U (k+(T:Int)+(l0.length:Int)+(l1.length:Int)+1+1+(l4.length:Int)+1))) l7):=(mJ.sub (by intro a ha;simp[ha])).mk (aa AX3) (mJ.sub jD);clear IN3;go_wp2_with fail;clear yK hf5 uY hf6 hh7;refine(uh Gx.2.2.2 HV3 ae ae).mono ?_;rintro e v3⟨rfl,N3⟩;have AC4:Hid (Mk wr v3 (((((((([]++l0)++l1)++[⟨b,o+j*8+2,.u64⟩])++[⟨b,o+j*8+3,.i64⟩])++l4)++[⟨b,o+j*8+5,.u64⟩])++[⟨b,o+j*8+6,.u64⟩])++l7) (k+(T:Int))):=Mk.call (aa AX3) N3 (aa mJ) jD (by intro a ha;simp[ha]) (by simp;try omega);clear N3 AX3 HV3;have FIN:=af (aa HPW _ (by simpa using aa AC4));go_wp2;go_roundw;exact⟨j+1,ae,by go_num,by rw[aa HT];first|(simp;omega)|(congr 1;simp;omega),FIN⟩;exact bG};{
 have e:j=n:=ae;subst e;have e2:(Ls.take j).flatten=A:=by rw[<-aa LL,mF];exact EA.symm
 rw[e2]at hM⊢;clear hle vP HA;go_wp2;go_ret;exact⟨rfl,hM⟩}}
end Go.Proofs.YtjjnidignljppaaGreatDoor
