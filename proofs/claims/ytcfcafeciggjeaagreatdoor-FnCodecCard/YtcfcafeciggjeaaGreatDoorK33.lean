import Derived.Test.YtcfcafeciggjeaaGreatDoorK27
import Derived.Test.YtcfcafeciggjeaaGreatDoorK20
import Derived.Test.YtcfcafeciggjeaaGreatDoorK29
import Derived.Shelf.Abstract
import Derived.Shelf.RegionOpen
import Derived.Lib.SlBytesConst
import Derived.Test.YtcfcafeciggjeaaGreatDoorRows
import Derived.ShutString
import Derived.ChangeOld
import Derived.HandedShaped
import Derived.Shelf.Vars
import Derived.LaidMore
import Derived.Lay
import Derived.Stop.Joined
import Derived.OpenVars
namespace Go.Proofs.YtcfcafeciggjeaaGreatDoor
set_option maxHeartbeats 8000000
set_option linter.all false
set_option maxRecDepth 100000
set_option linter.unusedVariables false
variable {B R b g i o:Nat} {K:Act->World->Prop} {a a':Act} {cs:List Value} {hi lo s vs:Int} {l l0 m:List Int} {oi:Oper} {om:Option (List Int)} {p:Option Addr} {sh:Bool} {v v0:Value}
def NM (nd:aD):Prop:=(nd.path.length<=136/\nd.value.length<=41/\nd.holders.length<=51)/\(0<=nd.mode/\nd.mode<=3)/\(0<=nd.owner/\nd.owner<18446744073709551616)/\(0<=nd.aB/\nd.aB<18446744073709551616)/\(0<=nd.gen/\nd.gen<18446744073709551616)/\∀ i∈nd.holders,0<=i/\i<18446744073709551616
structure Sn (ss:List aY) (ns:List aD):Prop where
 n1:ss.length<=51
 n2:ns.length<=201
 s:∀ s∈ss,0<=s.1/\s.1<18446744073709551616
 d:∀ nd∈ns,NM nd
open Go.ChangeShapes Go.WideShapes Go.ChangeAt Go.RowKit Go.Proofs.Tryz
def oB:Option (List Int)->Int × Option (List Int)
 | some (c::t)=>(c,some t)
 | _=>(0,none)
def oV:Option (List Int)->Int × Option (List Int)
 | some m=>(match rv m with | some x=>(x.1,some x.2) | none=>(0,none))
 | none=>(0,none)
def oT:Option (List Int)->List Int × Option (List Int)
 | some m=>(match rt m with | some x=>(x.1,some x.2) | none=>([],none))
 | none=>([],none)
def mP (n:Nat):Option (List Int)->Int
 | some m=>(n:Int)-m.length
 | none=>-1
def lZ (n:Nat) (l:List Int) (om:Option (List Int)):Prop:=∀ m,om=some m->m.length<=n/\m=l.drop (n-m.length)
theorem lZ.start {n:Nat} (h:l.length=n):lZ n l (some l):=fun m e=>by
 simp at e;subst e;exact ⟨ab,by rw [h,Nat.sub_self];rfl⟩
theorem lZ.none {n:Nat} :lZ n l none:=fun m e=>by cases e
theorem lZ.Ir {n:Nat} (hl:l.length=n) (h:lZ n l (some m)) {t:List Int} (ht:t.length<=m.length) (e:t=m.drop (m.length-t.length)):lZ n l (some t):=fun x ex=>by
 simp at ex;subst ex;obtain ⟨h1,h2⟩:=h m rfl;refine ⟨ab,?_⟩
 conv=>lhs;rw [e,h2,List.drop_drop,List.length_drop,hl]
 congr 1
 omega
theorem An {n:Nat} (hl:l.length=n) (h:lZ n l om):lZ n l (oB om).2:=by
 match om,h with
 | none,_=>exact lZ.none
 | some [],_=>exact lZ.none
 | some (c::t),h=>exact lZ.Ir hl h aU aU
theorem mz {n:Nat} (hl:l.length=n) (h:lZ n l om):lZ n l (oV om).2:=by
 match om,h with
 | none,_=>exact lZ.none
 | some m,h=>
  show lZ n l (match rv m with | some x=>(x.1,some x.2) | none=>(0,none):Int × Option (List Int)).2;cases e:rv m with
  | none=>exact lZ.none
  | some x=>
   obtain ⟨v,t⟩:=x;obtain ⟨_,_,h3,h4⟩:=uz 10 0 0 m v t e;exact lZ.Ir (t:=t) hl h (Nat.le_of_lt h3) h4
theorem VC {x:List Int × List Int} (h:rt m=some x):x.2.length<=m.length/\x.2=m.drop (m.length-x.2.length)/\∃ a b,x.1=(m.drop a).take b:=by
 unfold rt at h;cases e:rv m with
 | none=>rw [e] at h;simp at h
 | some y=>
  obtain ⟨v,t⟩:=y;rw [e] at h;simp only at h;obtain ⟨v0,_,h3,h4⟩:=uz 10 0 0 m v t e;split at h;{cases h};{
 next hv=>
 simp at h;subst h;simp only [List.length_drop];refine ⟨ab,?_,m.length-t.length,v.toNat,by rw [<-h4]⟩
 conv=>lhs;rw [h4,List.drop_drop]
 congr 1
 omega}
theorem Eb {n:Nat} (hl:l.length=n) (h:lZ n l om):lZ n l (oT om).2:=by
 match om,h with
 | none,_=>exact lZ.none
 | some m,h=>
  show lZ n l (match rt m with | some x=>(x.1,some x.2) | none=>([],none):List Int × Option (List Int)).2;cases e:rt m with
  | none=>exact lZ.none
  | some x=>
   obtain ⟨h1,h2,_⟩:=VC e;exact lZ.Ir hl h h1 h2
theorem pY {n:Nat} (hb:bM l) (h:lZ n l om):bM (oT om).1/\(oT om).1.length<=n:=by
 match om,h with
 | none,_=>exact ⟨fun z hz=>by simp [oT] at hz,by simp [oT]⟩
 | some m,h=>
  obtain ⟨h1,h2⟩:=h m rfl;have hm:bM m:=by rw [h2];exact fun z hz=>hb z (List.mem_of_mem_drop hz)
  show bM (match rt m with | some x=>(x.1,some x.2) | none=>([],none):List Int × Option (List Int)).1/\(match rt m with | some x=>(x.1,some x.2) | none=>([],none):List Int × Option (List Int)).1.length<=n;cases e:rt m with
  | none=>exact ⟨fun z hz=>by simp at hz,aU⟩
  | some x=>
   obtain ⟨_,_,a,b,h3⟩:=VC e;refine ⟨?_,?_⟩;{show bM x.1;rw [h3];exact fun z hz=>hm z (List.mem_of_mem_drop (List.mem_of_mem_take hz))};{show x.1.length<=n;rw [h3,List.length_take,List.length_drop];omega}
theorem WK {n:Nat} (hb:bM l) (h:lZ n l om):0<=(oB om).1/\(oB om).1<256:=by
 match om,h with
 | none,_=>simp [oB]
 | some [],_=>simp [oB]
 | some (c::t),h=>
  obtain ⟨h1,h2⟩:=h _ rfl;exact hb c (List.mem_of_mem_drop (by rw [<-h2];simp))
theorem D5 :0<=(oV om).1/\(oV om).1<18446744073709551616:=by
 cases om with
 | none=>simp [oV]
 | some m=>
  show 0<=(match rv m with | some x=>(x.1,some x.2) | none=>(0,none):Int × Option (List Int)).1/\(match rv m with | some x=>(x.1,some x.2) | none=>(0,none):Int × Option (List Int)).1<_;cases e:rv m with
  | none=>simp
  | some x=>
   obtain ⟨v,t⟩:=x;obtain ⟨h1,h2,_⟩:=uz 10 0 0 m v t e;exact ⟨h1,h2⟩
theorem Vz (P rest:List Int) (h:P.length<18446744073709551616):rt (tx P++rest)=some (P,rest):=by
 rw [rt,tx,List.append_assoc,QZ _ _ h];simp only [List.length_append];rw [if_neg ab];simp
theorem nE (p:Option Addr) (c n:Nat) (l:List Int) (en:Hid (l.length=n)) (w:World) (h:Rd w (.S p n c) l) (hb:bM l) (hl:n<=1048576) (om:Option (List Int)) (hs:lZ n l om) (x:Int) (Da:Option (List Int)) (e:Hid (oB om=(x,Da))) :
  Calls prog 50 #[.S p n c,.I (mP n om)] w fun e w'=>e=.returned (.tuple #[.I x,.I (mP n Da)])/\w'=w:=by
 have e:=aa e
 match om,hs with
 | none,_=>
  simp [oB] at e;obtain ⟨rfl,rfl⟩:=e;exact Ic p c n w
 | some [],hs=>
  simp [oB] at e;obtain ⟨rfl,rfl⟩:=e;have ea:mP n (some [])=(n:Int):=by simp [mP]
  rw [ea];exact Ii p c n w hl
 | some (y::t),hs=>
  simp [oB] at e;obtain ⟨rfl,rfl⟩:=e;obtain ⟨h1,h2⟩:=hs _ rfl;simp only [List.length_cons] at h1 h2;obtain ⟨a,ea⟩:=aH (n-(t.length+1));rw [ea] at h2;have e1:mP n (some (y::t))=(a:Int):=by simp [mP];omega
  have e2:mP n (some t)=((a+1:Nat):Int):=by simp [mP];omega
  have e3:l.getD a 0=y:=by have:=congrArg (fun z=>z.getD 0 0) h2;simp [List.getD] at this;simp [List.getD,<-this]
  have:=KE p c n a l en w h hb hl ab;rw [e3] at this;rw [e1,e2];exact this
theorem Aj (p:Option Addr) (c n:Nat) (l:List Int) (en:Hid (l.length=n)) (w:World) (h:Rd w (.S p n c) l) (hb:bM l) (hl:n<=1048576) (om:Option (List Int)) (hs:lZ n l om) (x:Int) (Da:Option (List Int)) (e:Hid (oV om=(x,Da))) :
  Calls prog 51 #[.S p n c,.I (mP n om)] w fun e w'=>e=.returned (.tuple #[.U x,.I (mP n Da)])/\w'=w:=by
 have e:=aa e
 match om,hs with
 | none,_=>
  simp [oV] at e;obtain ⟨rfl,rfl⟩:=e;exact Cr p c n w
 | some m,hs=>
  obtain ⟨h1,h2⟩:=hs _ rfl;obtain ⟨a,ea⟩:=aH (n-m.length);rw [ea] at h2;have e1:mP n (some m)=(a:Int):=by simp [mP];omega
  have:=DV p c n a l en w h hb hl ab (rv m) (by show _=_;rw [<-h2]);rw [e1];refine this.mono ?_;rintro r w' ⟨rfl,rfl⟩;refine ⟨?_,rfl⟩;unfold oV at e;dsimp only at e;cases er:rv m with
  | none=>rw [er] at e;simp at e;obtain ⟨rfl,rfl⟩:=e;rfl
  | some y=>rw [er] at e;simp at e;obtain ⟨rfl,rfl⟩:=e;rfl
theorem nt (p:Option Addr) (c n:Nat) (l:List Int) (en:Hid (l.length=n)) (w:World) (h:Rd w (.S p n c) l) (hb:bM l) (hl:n<=1048576) (Q6:n<=c) (om:Option (List Int)) (hs:lZ n l om) (x:List Int) (Da:Option (List Int)) (e:Hid (oT om=(x,Da))) (N:Nat) (eN:Hid (x.length=N)) :
  Calls prog 52 #[.S p n c,.I (mP n om)] w fun e w'=>∃ p' c',e=.returned (.tuple #[.S p' N c',.I (mP n Da)])/\Own w.heap.size w' (.S p' N c') x/\Bw w w':=by
 have e:=aa e
 match om,hs with
 | none,_=>
  simp [oT] at e;obtain ⟨rfl,rfl⟩:=e;have hN:N=0:=by rw [<-aa eN];rfl
  subst hN;refine (Ib p c n w).mono ?_;rintro r w' ⟨rfl,rfl⟩;exact ⟨none,0,rfl,World.ownsRow_nil _ _ _ _,Below.refl _ _⟩
 | some m,hs=>
  obtain ⟨h1,h2⟩:=hs _ rfl;obtain ⟨a,ea⟩:=aH (n-m.length);rw [ea] at h2;have e1:mP n (some m)=(a:Int):=by simp [mP];omega
  have e2:tOf (rt m)=x/\bOf n (rt m)=mP n Da:=by
   unfold oT at e;dsimp only at e;cases er:rt m with
   | none=>rw [er] at e;simp at e;obtain ⟨rfl,rfl⟩:=e;exact ⟨rfl,rfl⟩
   | some y=>rw [er] at e;simp at e;obtain ⟨rfl,rfl⟩:=e;exact ⟨rfl,rfl⟩
  have:=Kz p c n a l en w h hb hl Q6 ab (rt m) (by show _=_;rw [<-h2]) N (by show _=_;rw [e2.1];exact aa eN);rw [e1];rw [e2.1,e2.2] at this;exact this
abbrev aI (g:Nat):Value:=.S (some ⟨g,0,none⟩) 0 0
def JB (R:Nat) (w:World) (p:Option Addr) (m:List Int):Prop:=m=[]\/∃ b o,b<R/\p=some ⟨b,o,none⟩/\∀ i,i<m.length->w.cell? ⟨b,o+i,none⟩=some (.int .u8 (m.getD i 0))
theorem JB.rd {w:World} {n c:Nat} (h:JB R w p m) (e:m.length=n):Rd w (.S p n c) m:=by
 refine ⟨p,c,by rw [e],?_⟩;rcases h with h | ⟨b,o,_,h2,h3⟩;{exact .inl h};{exact .inr ⟨b,o,h2,h3⟩}
theorem JB.set {w:World} (h:JB R w p m) (o:Nat) (v:Value):JB R (w.setCell ⟨R,o,none⟩ v) p m:=by
 rcases h with h | ⟨b,o',h1,h2,h3⟩;{exact .inl h};{refine .inr ⟨b,o',h1,h2,fun i hi=>?_⟩;rw [World.cell?_setCell_other _ _ _ _ (by simp;try omega)];exact h3 i hi}
theorem JB.tail {w:World} {x:Int} (h:JB R w (some ⟨b,o,none⟩) (x::m)):JB R w (some ⟨b,o+1,none⟩) m:=by
 rcases h with h | ⟨b',o',h1,h2,h3⟩;{cases h};{simp at h2;obtain ⟨rfl,rfl⟩:=h2;refine .inr ⟨b,o+1,h1,rfl,fun i hi=>?_⟩;have:=h3 (i+1) dx;rw [show o+1+i=o+(i+1) by omega,this];simp}
def oY (w:World) (R:Nat) (m:List Int) (n:Nat) (sh:Bool):Prop:=
 m.length=n/\(∀ o,w.frozen? ⟨R,o,none⟩=false)/\∃ p c,At2 w R (.S p n c) (.bool sh)/\JB R w p m/\n<=c/\((p=none/\c=0)\/∃ b o,p=some ⟨b,o,none⟩)
theorem wo {w:World} :Kept [aI R] w (w.setCell ⟨R,o,none⟩ v):=by
 refine ⟨rfl,rfl,rfl,aU,fun k hk gd=>?_⟩;have:k≠R:=fun e=>gd (aI R) aU (by rw [e];rfl);simp [World.setCell,Array.getElem?_modify];intro e;exact absurd e.symm this
theorem Pp (R:Nat) (x:Int) (m:List Int) (n:Nat) (sh:Bool) (w:World) (h:oY w R (x::m) (n+1) sh) (hx:0<=x/\x<256) (hl:n<=1048576) :
  Calls prog 56 #[.pointer (some ⟨R,0,none⟩)] w fun e w'=>e=.returned (.I x)/\oY w' R m n sh/\Kept [aI R] w w':=by
 obtain ⟨hlen,hf,p,c,⟨h0,h1⟩,hr,hc,hp⟩:=h;have OR:m.length=n:=by simpa using hlen
 obtain ⟨b,o,rfl⟩:∃ b o,p=some ⟨b,o,none⟩:=by rcases hp with h | h;{omega};{exact h}
 have hbR:b<R:=by rcases hr with h | ⟨b',o',h1,h2,_⟩;{cases h};{simp at h2;omega}
 have Yh:w.cell? ⟨b,o,none⟩=some (.int .u8 x):=by rcases hr with h | ⟨b',o',h1,h2,h3⟩;{cases h};{simp at h2;obtain ⟨rfl,rfl⟩:=h2;simpa using h3 0 aU}
 have g1:((n:Int)+1==0)=false:=by simp;omega
 have wx:IntKind.i64.wrap x=x:=IntWalk.i64_in _ ab;have k1:(1:Int)<=(n:Int)+1:=ab;have k2:(n:Int)+1<=(c:Int):=ab;have k3:=dE 1 c;have HR:=ae hr;clear hr hp hlen;by_cases kH:c=1;{subst kH;have RI:n=0:=ab;subst RI;have xu:m=[]:=List.length_eq_zero_iff.1 OR;subst xu;go_enter func56,ntmps56;go_wp2;go_ret;refine ⟨rfl,⟨rfl,fun o=>by simp [hf],some ⟨b,o,none⟩,0,⟨by simp [go_sem,h0],by simp [go_sem,h1]⟩,.inl rfl,ab,.inr ⟨b,o,rfl⟩⟩,wo⟩};{have bV6:¬ (c:Int)=1:=ab;go_enter func56,ntmps56;go_wp2;go_ret;exact ⟨rfl,⟨OR,fun o=>by simp [hf],some ⟨b,o+1,none⟩,c-1,⟨by simp [go_sem,h0],by simp [go_sem,h1]⟩,HR.tail.set _ _,ab,.inr ⟨b,o+1,rfl⟩⟩,wo⟩}
theorem Pq (R:Nat) (sh:Bool) (w:World) (h:oY w R [] 0 sh) :
  Calls prog 56 #[.pointer (some ⟨R,0,none⟩)] w fun e w'=>e=.returned (.I 0)/\oY w' R [] 0 true/\Kept [aI R] w w':=by
 obtain ⟨hlen,hf,p,c,⟨h0,h1⟩,hr,hc,hp⟩:=h;go_enter func56,ntmps56;go_wp2;go_ret;exact ⟨rfl,⟨rfl,fun o=>by simp [hf],p,c,⟨by simp [go_sem,h0],by simp [go_sem,h1]⟩,.inl rfl,hc,hp⟩,wo⟩
def sB:List Int->Bool->Int × List Int × Bool
 | [],_=>(0,[],true)
 | c::t,sh=>(c,t,sh)
theorem zN (R:Nat) (m:List Int) (n:Nat) (sh:Bool) (w:World) (h:oY w R m n sh) (hb:bM m) (hl:n<=1048576) (x:Int) (m':List Int) (ng:Bool) (e:Hid (sB m sh=(x,m',ng))) :
  Calls prog 56 #[.pointer (some ⟨R,0,none⟩)] w fun e w'=>e=.returned (.I x)/\oY w' R m' m'.length ng/\Kept [aI R] w w':=by
 have e:=aa e;cases m with
 | nil=>
  simp [sB] at e;obtain ⟨rfl,rfl,rfl⟩:=e;have hn:n=0:=h.1.symm;subst hn;exact Pq R sh w h
 | cons c t=>
  simp [sB] at e;obtain ⟨rfl,rfl,rfl⟩:=e;have hn:n=t.length+1:=by have:=h.1;simpa using this.symm
  subst hn;exact Pp R c t t.length sh w h (hb c aU) ab
def sN:Nat->Nat->Int->List Int->Bool->Int × List Int × Bool
 | 0,_,a,m,sh=>(a,m,sh)
 | f+1,k,a,m,sh=>if (sB m sh).1<128 then (al6 k a (sB m sh).1,(sB m sh).2) else sN f (k+1) (al6 k a (sB m sh).1) (sB m sh).2.1 (sB m sh).2.2
theorem Ai (h:bM m):bM (sB m sh).2.1/\0<=(sB m sh).1/\(sB m sh).1<256/\(sB m sh).2.1.length<=m.length:=by
 cases m with
 | nil=>exact ⟨fun z hz=>by simp [sB] at hz,by simp [sB],by simp [sB],by simp [sB]⟩
 | cons c t=>exact ⟨fun z hz=>h z (by simp [sB] at hz;simp [hz]),(h c aU).1,(h c aU).2,by simp [sB]⟩
theorem gQ (R:Nat) (m:List Int) (n:Nat) (sh:Bool) (w:World) (h:oY w R m n sh) (hb:bM m) (hl:n<=1048576) (x:Int) (m':List Int) (ng:Bool) (e:Hid (sN 10 0 0 m sh=(x,m',ng))) :
  Calls prog 57 #[.pointer (some ⟨R,0,none⟩)] w fun e w'=>e=.returned (.U x)/\oY w' R m' m'.length ng/\Kept [aI R] w w':=by
 go_enter func57,ntmps57;go_wp2_with fail
 go_loopw [3,6] (fun nv iv wr=>∃ (v:Int) (k:Nat) (m1:List Int) (sh1:Bool) (n1:Nat),nv=.U v/\k<=10/\iv=.I k/\Hid (sN (10-k) k v m1 sh1=(x,m',ng))/\Hid (bM m1)/\n1<=n/\Hid (oY wr R m1 n1 sh1)/\Kept [aI R] w wr) (fun _ iv _=>10-(intOf iv).toNat)
 case atStart=>exact ⟨0,0,m,sh,n,rfl,ab,rfl,e,hb,Nat.le_refl _,h,Kept.refl _ _⟩
 case round =>(
 obtain ⟨v,k,m1,sh1,n1,rfl,hk,rfl,hN,vG,VO,hR,hK⟩:=hrel;by_cases h10:k<10;{
 have ao5:(k:Int)<10:=ab;have Et:=aa hN;rw [show 10-k=(9-k)+1 by omega,sN] at Et;have fI:=Ai (sh:=sh1) vG;obtain ⟨⟨c,m2,sh2⟩,eS⟩:∃ y,sB m1 sh1=y:=⟨_,rfl⟩;rw [eS] at Et fI;obtain ⟨jL,Yh,kH,uW⟩:=fI;dsimp only at Et jL Yh kH uW;have sj:m1.length=n1:=hR.1;have OY:m2.length<=n:=ab;have w7:IntKind.i64.wrap (7*(k:Int))=7*(k:Int):=IntWalk.i64_in _ ab;have w70:¬ 7*(k:Int)<0:=ab;have qv:=ae jL;clear hN jL sj uW;go_wp2_with fail;refine (zN R m1 n1 sh1 _ hR vG ab c m2 sh2 eS).mono ?_;rintro r w2 ⟨rfl,hR2,Ac⟩;have HR2:=ae hR2;have HK2:=ae (hK.trans Ac);clear hR2 Ac eS;by_cases hc:c<128;{rw [if_pos hc] at Et;simp only [Prod.mk.injEq] at Et;obtain ⟨e1,rfl,rfl⟩:=Et;have E1:=ae e1;clear e1;go_wp2;go_ret;exact ⟨by rw [<-aa E1];rfl,aa HR2,aa HK2⟩};{
 have iw:¬ c<128:=hc;rw [if_neg hc] at Et;have zS:Hid (sN (10-(k+1)) (k+1) (al6 k v c) m2 sh2=(x,m',ng)):=by show _=_;rw [show 10-(k+1)=9-k by omega];exact Et
 clear Et;go_wp2;go_roundw
 case rel=>exact ⟨al6 k v c,k+1,m2,sh2,m2.length,rfl,ab,by go_num,zS,qv,OY,HR2,HK2⟩
 exact dC}};{have ao5:¬ (k:Int)<10:=ab;have Et:=aa hN;rw [show 10-k=0 by omega,sN] at Et;simp only [Prod.mk.injEq] at Et;obtain ⟨rfl,rfl,rfl⟩:=Et;have sj:m1.length=n1:=hR.1;subst sj;clear hN;go_wp2;go_ret;exact ⟨rfl,hR,hK⟩})
def sT (m:List Int) (sh:Bool):List Int × List Int × Bool:=
 if ((sN 10 0 0 m sh).2.1.length:Int)<(sN 10 0 0 m sh).1 then ([],(sN 10 0 0 m sh).2.1,true)
 else ((sN 10 0 0 m sh).2.1.take (sN 10 0 0 m sh).1.toNat,(sN 10 0 0 m sh).2.1.drop (sN 10 0 0 m sh).1.toNat,(sN 10 0 0 m sh).2.2)
theorem DS (f:Nat):∀ (k:Nat) (a:Int) (m:List Int) (sh:Bool),bM m->(0<=a/\a<18446744073709551616)->bM (sN f k a m sh).2.1/\(sN f k a m sh).2.1.length<=m.length/\0<=(sN f k a m sh).1/\(sN f k a m sh).1<18446744073709551616:=by
 induction f with
 | zero=>intro k a m sh hb ha;exact ⟨hb,Nat.le_refl _,ha.1,ha.2⟩
 | succ f ih=>
  intro k a m sh hb ha;rw [sN];obtain ⟨h1,h2,h3,h4⟩:=Ai (sh:=sh) hb;split;{exact ⟨h1,h4,sK _ _ _⟩};{obtain ⟨i1,i2,i3⟩:=ih (k+1) (al6 k a (sB m sh).1) _ (sB m sh).2.2 h1 (sK _ _ _);exact ⟨i1,ab,i3⟩}
theorem ab4 (X:World) (v0:Value) (l0:List Int) (N:Nat) (en:Hid (l0.length=N)) (r0:Rd X v0 l0) (hl:N<=4194304) :
  Calls prog 61 #[.S (some ⟨X.heap.size,0,none⟩) 1 1] (X.alloc (.cells #[v0] 22)) fun e w'=>∃ p' c',e=.returned (.S p' N c')/\Own X.heap.size w' (.S p' N c') l0/\Bw X w':=by
 have ba:Bw X (X.alloc (.cells #[v0] 22)):=aJ.alloc aA _;refine (xh X.heap.size [v0] [l0] l0 N 1 rfl (by show _=_;simp [cat]) en _ ⟨rfl,fun j v x e1 e2=>?_⟩ hl ab).mono ?_;{
 match j,e1,e2 with
 | 0,e1,e2=>simp at e1 e2;subst e1 e2;exact ⟨aU,r0.below ba⟩}
 {rintro e w' ⟨p',c',rfl,o,hb⟩;exact ⟨p',c',rfl,Own.mono o aU,ah ba hb⟩}
theorem JB.below {w w':World} (h:JB R w p m) (hb:Bw w w'):JB R w' p m:=by
 rcases h with h | ⟨b,o',h1,h2,h3⟩;{exact .inl h};{exact .inr ⟨b,o',h1,h2,fun i hi=>af (h3 i hi) hb⟩}
theorem JB.take {w:World} (h:JB R w p m) (V:Nat):JB R w p (m.take V):=by
 rcases h with h | ⟨b,o',h1,h2,h3⟩;{exact .inl (by rw [h];simp)};{refine .inr ⟨b,o',h1,h2,fun i hi=>?_⟩;rw [List.length_take] at hi;rw [h3 i ab];simp [List.getD,List.getElem?_take,show i<V by omega]}
theorem JB.drop {w:World} (h:JB R w (some ⟨b,o,none⟩) m) (V:Nat):JB R w (some ⟨b,o+V,none⟩) (m.drop V):=by
 rcases h with h | ⟨b',o',h1,h2,h3⟩;{exact .inl (by rw [h];simp)};{simp at h2;obtain ⟨rfl,rfl⟩:=h2;refine .inr ⟨b,o+V,h1,rfl,fun i hi=>?_⟩;rw [List.length_drop] at hi;rw [Nat.add_assoc,h3 (V+i) ab];simp [List.getD]}
theorem Dw (R:Nat) (m:List Int) (n:Nat) (sh:Bool) (w:World) (h:oY w R m n sh) (hb:bM m) (hl:n<=1048576) (hRw:R<w.heap.size) (x m':List Int) (ng:Bool) (e:Hid (sT m sh=(x,m',ng))) (N:Nat) (eN:Hid (x.length=N)) :
  Calls prog 58 #[.pointer (some ⟨R,0,none⟩)] w fun r w'=>∃ p' c',r=.returned (.S p' N c')/\Own w.heap.size w' (.S p' N c') x/\oY w' R m' m'.length ng/\Kept [aI R] w w':=by
 have fI:=DS 10 0 0 m sh hb ab;obtain ⟨⟨v,m1,sh1⟩,eS⟩:∃ y,sN 10 0 0 m sh=y:=⟨_,rfl⟩;have e2:=aa e;rw [sT,eS] at e2;rw [eS] at fI;obtain ⟨vG,Cd,v0,v1⟩:=fI;dsimp only at e2 vG Cd v0 v1;rw [h.1] at Cd;obtain ⟨n1,xC⟩:=aH m1.length;rw [xC] at e2 Cd;have wn:IntKind.u64.wrap (n1:Int)=(n1:Int):=by rw [IntKind.wrap_u64];omega
 go_enter func58,ntmps58;go_wp2_with fail;refine (gQ R m n sh _ h hb hl v m1 sh1 eS).mono ?_;rintro r w1 ⟨rfl,sU,Hq⟩;rw [xC] at sU;have Us:=ae sU;obtain ⟨_,hf,p,c,⟨h0,h1⟩,hr,hc,hp⟩:=sU;by_cases hv:(n1:Int)<v;{
 rw [if_pos hv] at e2;simp only [Prod.mk.injEq] at e2;obtain ⟨rfl,rfl,rfl⟩:=e2;have I9:N=0:=by rw [<-aa eN];rfl
 subst I9;have Rx:=ae v1;clear v1;go_wp2;go_ret;refine ⟨none,0,rfl,World.ownsRow_nil _ _ _ _,?_,Hq.trans wo⟩;rw [xC];exact ⟨xC,fun o=>by simp [hf],p,c,⟨by simp [go_sem,h0],by simp [go_sem,h1]⟩,hr.set _ _,hc,hp⟩};{
 rw [if_neg hv] at e2;obtain ⟨V,rfl⟩:∃ V:Nat,v=(V:Int):=⟨v.toNat,ab⟩;have eV:((V:Int)).toNat=V:=ab;rw [eV] at e2;simp only [Prod.mk.injEq] at e2;obtain ⟨ex,em,es⟩:=e2;have hVn:V<=n1:=ab;have hNV:N=V:=by rw [<-aa eN,<-ex,List.length_take,xC];omega
 subst hNV;have hml:m'.length=n1-N:=by rw [<-em,List.length_drop,xC]
 have xk:¬ (n1:Int)<(N:Int):=hv;have k2:=vj N c;have k3:=vj N n1;have k4:=vj n1 c;have bq7:R<w1.heap.size:=World.block_lt_of_cell? w1 _ h0;have HX:=ae (ag ex (ag em hml));have rx:Rd w1 (.S p N c) x:=by rw [<-ex];exact (hr.take N).rd (by rw [ex];exact aa eN)
 have HRX:=ae rx;have HRR:=ae hr;have zK:=Hq.size;have hNb:N<=4194304:=ab;clear v0 v1 eV hb vG ex em rx hr h eS e;go_wp2_with fail;refine (ab4 w1 (.S p N c) x N eN HRX hNb).mono ?_;rintro r w2 ⟨p2,c2,rfl,o2,b2⟩;have i0:=af h0 b2;have i1:=af h1 b2;have if':=dJ hf bq7 b2;have z2:=b2.size;have HK2:=ae (Hq.trans (Kept.nR b2));have HO2:=ae o2;have mG:=ae (HRR.below b2);clear h0 h1 hf b2 o2 Hq HRR HRX;rcases hp with ⟨rfl,rfl⟩ | ⟨b,o,rfl⟩;{have RI:n1=0:=ab;subst RI;have I9:N=0:=ab;subst I9;go_wp2;go_ret;refine ⟨p2,c2,rfl,Own.mono (B:=w1.heap.size) ?_ ab,?_,HK2.trans wo⟩;{exact ownsRow_setCell_below (aa HO2) dx _};{have xu:m'=[]:=List.length_eq_zero_iff.1 HX.2.2;rw [xu,<-es];exact ⟨rfl,fun o=>by simp [if'],none,0,⟨by simp [go_sem,i0],by simp [go_sem,i1]⟩,.inl rfl,aU,.inl ⟨rfl,rfl⟩⟩}};{by_cases hcN:c=N;{subst hcN;have VO:n1=c:=ab;subst VO;go_wp2;go_ret;refine ⟨p2,c2,rfl,Own.mono (B:=w1.heap.size) ?_ ab,?_,HK2.trans wo⟩;{exact ownsRow_setCell_below (aa HO2) dx _};{have xu:m'=[]:=List.length_eq_zero_iff.1 (by rw [HX.2.2];omega);rw [xu,<-es];exact ⟨rfl,fun o=>by simp [if'],some ⟨b,o,none⟩,0,⟨by simp [go_sem,i0],by simp [go_sem,i1]⟩,.inl rfl,aU,.inr ⟨b,o,rfl⟩⟩}};{have cx1:¬ (c:Int)=(N:Int):=ab;go_wp2;go_ret;refine ⟨p2,c2,rfl,Own.mono (B:=w1.heap.size) ?_ ab,?_,HK2.trans wo⟩;{exact ownsRow_setCell_below (aa HO2) dx _};{rw [<-es,HX.2.2];refine ⟨HX.2.2,fun o=>by simp [if'],some ⟨b,o+N,none⟩,c-N,⟨by simp [go_sem,i0],by simp [go_sem,i1]⟩,?_,ab,.inr ⟨b,o+N,rfl⟩⟩;have:=mG.drop N;rw [HX.2.1] at this;exact this.set _ _}}}}
theorem SO (f:Nat):∀ (k:Nat) (a:Int) (m:List Int) (v:Int) (t:List Int) (sh:Bool),Ia f k a m=some (v,t)->sN f k a m sh=(v,t,sh):=by
 induction f with
 | zero=>intro k a m v t sh h;simp [Ia] at h
 | succ f ih=>
  intro k a m v t sh h;cases m with
  | nil=>simp [Ia] at h
  | cons c m=>
   rw [Ia] at h;rw [sN];show (if c<128 then (al6 k a c,m,sh) else sN f (k+1) (al6 k a c) m sh)=_;split at h;{next hc=>rw [if_pos hc];simp at h;rw [h.1,h.2]}
   {next hc=>rw [if_neg hc];exact ih _ _ _ _ _ _ h}
theorem Vn (s:Nat) (rest:List Int) (sh:Bool) (hs:s<18446744073709551616):sN 10 0 0 (vi s++rest) sh=((s:Int),rest,sh):=SO 10 0 0 _ _ _ sh (QZ s rest hs)
theorem QY (P rest:List Int) (sh:Bool) (h:P.length<18446744073709551616):sT (tx P++rest) sh=(P,rest,sh):=by
 rw [sT,tx,List.append_assoc,Vn _ _ _ h];simp only [List.length_append];rw [if_neg ab];simp
theorem CW (h:sh=true):(sB m sh).2.2=true:=by
 cases m with
 | nil=>rfl
 | cons c t=>exact h
theorem Hz (f:Nat):∀ (k:Nat) (a:Int) (m:List Int) (sh:Bool),sh=true->(sN f k a m sh).2.2=true:=by
 induction f with
 | zero=>intro k a m sh h;exact h
 | succ f ih=>
  intro k a m sh h;rw [sN];split;{exact CW h};{exact ih _ _ _ _ (CW h)}
theorem CU (h:sh=true):(sT m sh).2.2=true:=by
 rw [sT];split;{rfl}
 {exact Hz _ _ _ _ _ h}
theorem Ab (h:bM m):bM (sT m sh).1/\bM (sT m sh).2.1/\(sT m sh).1.length<=m.length/\(sT m sh).2.1.length<=m.length:=by
 obtain ⟨h1,h2,h3,h4⟩:=DS 10 0 0 m sh h ab;rw [sT];split;{exact ⟨fun z hz=>by simp at hz,h1,aU,h2⟩};{refine ⟨fun z hz=>h1 z (List.mem_of_mem_take hz),fun z hz=>h1 z (List.mem_of_mem_drop hz),?_,?_⟩;{rw [List.length_take];omega};{rw [List.length_drop];omega}}
theorem gU {w w':World} (h:∀ o,w.frozen? ⟨b,o,none⟩=false) (hk:Kept [aI R] w w') (hb:b<w.heap.size) (gd:b≠R):∀ o,w'.frozen? ⟨b,o,none⟩=false:=fun o=>
 (World.frozen?_of_block (hk.block b hb (fun x hx e=>by simp only [List.mem_singleton] at hx;subst hx;simp [Value.ownBlock] at e;exact gd e.symm))).trans (h o)
theorem Own.fx {w w':World} (h:Own B w v l) (hk:Kept [aI R] w w') (hR:R<B):Own B w' v l:=by
 refine Own.Vs (vs:=[aI R]) h hk ?_;intro x hx k e1 e2;simp only [List.mem_singleton] at hx;subst hx;simp [Value.ownBlock] at e2;have:=h.lt k e1;omega
theorem gV {w0 w w':World} (h:Bw w0 w) (hk:Kept [aI R] w w') (hR:w0.heap.size<=R):Bw w0 w':=
 h.trans (hk.below h.size (fun v hv b e=>by simp only [List.mem_singleton] at hv;subst hv;simp [Value.ownBlock] at e;omega))
def xj (h b:Int):Int:=((h.toNat ^^^ b.toNat:Nat):Int)*16777619 % 4294967296
def Ji (h:Int) (l:List Int):Int:=l.foldl xj h
def ck (l:List Int):Int:=Ji 2166136261 l
theorem Ul (h b:Int):0<=xj h b/\xj h b<4294967296:=by unfold xj;omega
theorem Nj (l:List Int) (k:Nat) (h:k<l.length):ck (l.take (k+1))=xj (ck (l.take k)) l[k]:=by
 unfold ck Ji;rw [List.take_succ_eq_append_getElem h,List.foldl_append];rfl
theorem aj4 (l:List Int):0<=ck l/\ck l<4294967296:=by
 rcases l.eq_nil_or_concat with rfl | ⟨m,x,rfl⟩;{unfold ck Ji;simp};{unfold ck Ji;rw [List.concat_eq_append,List.foldl_append];exact Ul _ _}
theorem bi0 (k:IntKind) (j:Nat) (hj:j<=k.bits) (hk:∀ n:Int,0<=n->n<2 ^ j->k.wrap n=n) (a b:Nat) (ha:a<2 ^ j) (hb:b<2 ^ j):bits .xor k a b=((a ^^^ b:Nat):Int):=by
 have hp:2 ^ j<=2 ^ k.bits:=Nat.pow_le_pow_right bl hj;have Tz:a % 2 ^ k.bits=a:=Nat.mod_eq_of_lt (Nat.lt_of_lt_of_le ha hp);have cR:b % 2 ^ k.bits=b:=Nat.mod_eq_of_lt (Nat.lt_of_lt_of_le hb hp);have cast:∀ n:Nat,n<2 ^ j->((n:Nat):Int)<2 ^ j:=fun n h=>by exact_mod_cast h
 simp only [bits,BitVec.ofInt_natCast,BitVec.toNat_xor,BitVec.toNat_ofNat,Tz,cR];exact hk _ (Int.natCast_nonneg _) (cast _ (Nat.xor_lt_two_pow ha hb))
theorem aH8 {a z:Int} (c0:0<=a) (c1:a<4294967296) (z0:0<=z) (z1:z<256):IntKind.u32.wrap (bits .xor .u32 a z*16777619)=xj a z:=by
 obtain ⟨m,rfl⟩:=Int.eq_ofNat_of_zero_le c0;obtain ⟨n,rfl⟩:=Int.eq_ofNat_of_zero_le z0;rw [bi0 .u32 32 bl wraps_u32 m n ab ab,IntKind.wrap_u32];unfold xj;simp only [Int.ofNat_eq_natCast,Int.toNat_natCast]
theorem PY (p:Option Addr) (c:Nat) (l:List Int) (w:World) (h:Rd w (.S p l.length c) l) (hb:bM l) (hl:l.length<=4194304) :
  Calls prog 133 #[.S p l.length c] w fun e w'=>e=.returned (.int .u32 (ck l))/\Bw w w':=by
 obtain ⟨p',c',ev,h⟩:=h;simp only [Value.slice.injEq] at ev;obtain ⟨rfl,-,rfl⟩:=ev;go_enter func133,ntmps133;go_wp2
 go_loopw [3,8] (fun hh i wr=>∃ k:Nat,k<=l.length/\i=.I k/\hh=.int .u32 (ck (l.take k))/\Bw w wr) (fun _ i _=>l.length-(intOf i).toNat)
 case atStart=>exact ⟨0,Nat.zero_le _,rfl,rfl,Below.refl _ _⟩
 case round =>(
 obtain ⟨k,hk,rfl,rfl,aR⟩:=hrel;obtain ⟨c0,c1⟩:=aj4 (l.take k);by_cases bj:k<l.length;{
 rcases h with rfl | ⟨b,o,rfl,hc⟩;{simp at bj};{
 have zO:wr.cell? ⟨b,o+k,none⟩=some (.int .u8 l[k]):=(aR.cell (p:=⟨b,o+k,none⟩) (World.block_lt_of_cell? w _ (hc k bj))).trans (by rw [hc k bj];simp [List.getD,bj]);obtain ⟨z0,z1⟩:=hb l[k] (List.getElem_mem bj);have HS:=ae (Nj l k bj);have HM:=ae bj;clear hc hb;generalize l[k]=z at *;generalize ck (l.take k)=a at *;go_wp2;go_roundw
 case rel=>exact ⟨k+1,ab,by go_num,by rw [aa HS,<-aH8 c0 c1 z0 z1,IntKind.wrap_u32],aR⟩
 exact dC}};{have e:k=l.length:=ab;subst e;rw [List.take_length] at *;go_wp2;go_ret;exact ⟨rfl,aR⟩})
def le (v:Int):Nat->List Int
 | 0=>[]
 | n+1=>v % 256::le (v / 256) n
theorem uF (v:Int) (n:Nat):(le v n).length=n:=by induction n generalizing v with | zero=>rfl | succ n ih=>simp [le,ih]
theorem PG (v:Int) (n:Nat):bM (le v n):=by
 induction n generalizing v with
 | zero=>intro z hz;simp [le] at hz
 | succ n ih=>
  intro z hz;simp only [le,List.mem_cons] at hz;rcases hz with rfl | hz;{omega};{exact ih _ z hz}
theorem aa5 (v:Int) (n:Nat):le v (n+1)=le v n++[v / 256 ^ n % 256]:=by
 induction n generalizing v with
 | zero=>simp [le]
 | succ n ih=>
  rw [le,ih,le,List.cons_append];rw [Int.ediv_ediv_of_nonneg ab,Int.pow_succ,Int.mul_comm]
theorem bM.append (h:bM l) (k:bM m):bM (l++m):=fun z hz=>by
 rcases List.mem_append.1 hz with a | a;{exact h z a};{exact k z a}
theorem sG (n:Nat) (v:Int) (w:World) (hn:n<=8) (h0:0<=v) (h1:v<18446744073709551616) :
  Calls prog 75 #[.U v,.I n] w fun e w'=>∃ p c,e=.returned (.S p n c)/\Own w.heap.size w' (.S p n c) (le v n)/\Bw w w':=by
 go_enter func75,ntmps75;go_wp2
 go_loopw [0,5,7] (fun nn ov i wr=>∃ (k:Nat) (p:Option Addr) (c:Nat) (l:List Int) (u:Int),k<=n/\i=.I k/\nn=.U u/\Hid (u=v / 256 ^ k)/\0<=u/\u<18446744073709551616/\Hid (l=le v k)/\l.length=k/\ov=.S p k c/\Own w.heap.size wr (.S p k c) l/\Bw w wr) (fun _ _ i _=>n-(intOf i).toNat)
 case atStart=>exact ⟨0,none,0,[],v,Nat.zero_le _,rfl,rfl,by show _=_;simp,h0,h1,rfl,rfl,rfl,World.ownsRow_nil _ _ _ _,Below.refl _ _⟩
 case round =>(
 obtain ⟨k,p,c,l,u,hk,rfl,rfl,eu,u0,u1,el,hl,rfl,ho,aR⟩:=hrel;by_cases bj:k<n;{
 obtain ⟨lm,Bu⟩:=ax (l++[u % 256]);have OR:lm.length=k+1:=by simp [Bu,hl]
 have HLM:=ae OR;have el2:Hid (lm=le v (k+1)):=by show _=_;rw [Bu,aa el,aa eu,aa5]
 have eu2:Hid (u / 256=v / 256 ^ (k+1)):=by show _=_;rw [aa eu,Int.ediv_ediv_of_nonneg (Int.pow_nonneg ab),Int.pow_succ]
 have Gf:=ae Bu;clear OR el Bu eu;go_wp2_with (at_builtin;refine ga rfl _ _ rfl w.heap.size (.S p k c) l lm (u % 256) Gf wr.heap.size rfl rfl (Own.below ho (aJ.alloc aA _)) aU ab (by have:=aR.size;simp;omega) ?_);intro p' c' w2 vF fU;have b2:Bw w w2:=(aR.alloc aR.size (.cells #[.int .u8 (u % 256)] 5)).grown fU (by have:=aR.size;simp;omega) (fun k hk=>(ho.lt k hk).1);simp only [aa HLM];have VI:Own w.heap.size w2 (.S p' (k+1) c') lm:=by have h2:=vF;simp only [aa HLM] at h2;exact h2
 clear vF fU ho aR hl Gf;go_wp2;go_roundw
 case rel=>exact ⟨k+1,p',c',lm,u / 256,ab,by go_num,by first | rfl | go_num,eu2,ab,ab,el2,HLM,rfl,VI,b2⟩
 exact dC};{have e:k=n:=ab;subst e;rw [aa el] at ho;clear el hl eu;go_wp2;go_ret;exact ⟨p,c,rfl,ho,aR⟩})
theorem bz2 (a b c d:List Int):cat [a,b,c,d]=a++b++c++d:=by simp [cat]
def num:List Int->Int
 | []=>0
 | b::l=>b+256*num l
theorem PF (h:bM l):0<=num l/\num l<256 ^ l.length:=by
 induction l with
 | nil=>simp [num]
 | cons b l ih=>
  obtain ⟨h0,h1⟩:=ih (fun z hz=>h z (by simp [hz]));obtain ⟨b0,b1⟩:=h b aU;simp only [num,List.length_cons,Int.pow_succ];omega
theorem aa1 (h:bM l) (hl:l.length<=8):0<=num l/\num l<18446744073709551616:=by
 obtain ⟨a,b⟩:=PF h;refine ⟨a,Int.lt_of_lt_of_le b ?_⟩;have h9:((256 ^ l.length:Nat):Int)<=18446744073709551616:=by have h8:=Nat.pow_le_pow_right (n:=256) ab hl;have e:256 ^ 8=18446744073709551616:=rfl;omega
 rw [Int.natCast_pow] at h9;exact h9
theorem am8 (v:Int) (n:Nat) (h0:0<=v):num (le v n)=v % 256 ^ n:=by
 induction n generalizing v with
 | zero=>simp [le,num,Int.emod_one]
 | succ n ih=>
  rw [le,num,ih _ ab,Int.pow_succ];have hP:(0:Int)<256 ^ n:=Int.pow_pos ab;generalize (256:Int) ^ n=P at *;have e1:=Int.emod_add_mul_ediv v 256;have e2:=Int.emod_add_mul_ediv (v / 256) P;have h3:=Int.emod_nonneg (v / 256) (by omega:P≠0);have h4:=Int.emod_lt_of_pos (v / 256) hP;have ev:v=(v % 256+256*((v / 256) % P))+(P*256)*(v / 256 / P):=by
   have:(P*256)*(v / 256 / P)=256*(P*(v / 256 / P)):=by rw [Int.mul_comm P 256,Int.mul_assoc]
   rw [this];omega
  conv=>rhs;rw [ev]
  rw [Int.add_mul_emod_self_left,Int.emod_eq_of_lt (a:=v % 256+256*(v / 256 % P)) ab ab]
open Go.Shelf
attribute [local go_sem] Oper.semAt_some
abbrev IB:={ z:Int × Int // 0<=z.2/\z.2<256 }
def EU {α:Type} (f:Nat->α) (k:Nat):List α:=(List.range k).map f
theorem FE {α:Type} (f:Nat->α) (k:Nat):EU f (k+1)=EU f k++[f k]:=by simp [EU,List.range_succ]
theorem JD {α:Type} (f:Nat->α) (k:Nat):(EU f k).length=k:=by simp [EU]
theorem bM.get (h:bM l) (i:Nat):0<=l[i]?.getD 0/\l[i]?.getD 0<256:=by
 by_cases hi:i<l.length;{simp [hi];exact h _ (List.getElem_mem hi)};{simp [hi]}
def Ur (n Bs:Nat) (A B:World):Prop:=Below n A B/\B.cell? ⟨Bs,0,none⟩=A.cell? ⟨Bs,0,none⟩
theorem Ur.trans {n Bs:Nat} {A B C:World} (h:Ur n Bs A B) (k:Ur n Bs B C):Ur n Bs A C:=⟨h.1.trans k.1,k.2.trans h.2⟩
theorem Ur.refl (n Bs:Nat) (A:World):Ur n Bs A A:=⟨Below.refl _ _,rfl⟩
theorem Ur.put {n Bs:Nat} {w:World} (hn:n<=w.heap.size) (hB:Bs<w.heap.size) (W:World) (l:Nat) (o o':Obj) (hl:w.heap.size<=l) (h:W.heap[l]?=some o) (h1:o.isCells=false) (h2:o.isWalk=false):Ur n Bs W (W.putObj l o'):=
 ⟨belowK_b hn W l o o' hl h h1 h2,World.cell?_of_block (a:=⟨Bs,0,none⟩) (World.putObj_heap_other (by show Bs≠l;omega))⟩
def Nq (l:List Int) (h:bM l) (j:Nat):IB:=⟨((l.length:Int)-1-j,l[l.length-1-j]?.getD 0),h.get _⟩
set_option maxRecDepth 100000 in
theorem ap9 (F:Fence) (n:Nat) (h7:F.fn 164) (Zm:F.round=none) (hn:1<=n) (L Bs KT b o len cap:Nat) (l:List Int) (hB:bM l) (el:l.length=len) (hlen:len<=8) (hb:b<KT) (J Jx:List IB->World->Prop)
  (hY:∀ pre x W,J pre W->pre.length<len->YieldAt F (n-1) prog L #[.I x.1.1,.int .u8 x.1.2] W fun e W'=>
   (e=.returned (.bool true)/\J (pre++[x]) W'/\Ur KT Bs W W')\/(e=.returned (.bool false)/\Jx (pre++[x]) W'))
  (W:World) (hBs:W.cell? ⟨Bs,0,none⟩=some (.S (some ⟨b,o,none⟩) len cap)) (hc:∀ j,j<len->W.cell? ⟨b,o+j,none⟩=some (.int .u8 (l[j]?.getD 0))) (h0:J [] W) :
  CallsIn F n prog 164 #[.func (.yield L) #[] #[],.pointer (some ⟨Bs,0,none⟩)] W fun e W'=>(∃ v,e=.returned v) ∧
   ((∃ ys,ys=EU (Nq l hB) len/\J ys W')\/(∃ pre,Jx pre W')):=by
 refine callsIn_of_wp func164 rfl h7 ?_ Zm;simp only [ntmps164,List.size_toArray,List.length_cons,List.length_nil,Nat.reduceAdd,Nat.reduceSub,Array.replicate_succ,Array.replicate_zero,List.push_toArray,List.append_toArray,List.nil_append,List.cons_append]
 gi_wp2
 gi_loopw [3] (fun i wr=>∃ k:Nat,k<=len/\i=.I ((len:Int)-1-k)/\J (EU (Nq l hB) k) wr/\Ur KT Bs W wr) (fun i _=>(intOf i+1).toNat)
 case atStart=>exact ⟨0,Nat.zero_le _,aU,h0,Ur.refl _ _ _⟩
 case round =>(
 obtain ⟨k,hk,rfl,TJ,hnx⟩:=hrel;by_cases bj:k<len;{
 obtain ⟨m,em⟩:∃ m:Nat,m=len-1-k:=⟨_,rfl⟩;have e1:(len:Int)-1-k=(m:Int):=ab;have hm:m<len:=ab;obtain ⟨z,ez⟩:=ax (l[m]?.getD 0);have zO:wr.cell? ⟨b,o+m,none⟩=some (.int .u8 z):=(hnx.1.cell (p:=⟨b,o+m,none⟩) hb).trans ((hc m hm).trans (by rw [ez]));have MF:wr.cell? ⟨Bs,0,none⟩=some (.S (some ⟨b,o,none⟩) len cap):=hnx.2.trans hBs;obtain ⟨fn,tmps,assign,body,hy,hR⟩:=hY _ (Nq l hB k) wr TJ (by rw [JD];exact bj);have ex:(Nq l hB k).1=((m:Int),z):=by simp only [Nq,el,e1,em,ez]
 rw [ex] at hy;dsimp only at hy;rw [e1];have hmi:=aT m len;have EM:=ae em;have E1:=ae e1;have HK:=ae bj;have HC:=ae hc;clear em e1 ex bj hc ez
 gi_wp2
 refine hR.mono ?_;rintro e W3 (⟨rfl,hJ3,uJ⟩ | ⟨rfl,MU⟩);{
 gi_wp2
 go_roundw
 case rel=>exact ⟨k+1,aa HK,by have:=aa E1;congr 1;omega,by rw [FE];exact hJ3,hnx.trans uJ⟩
 case measure=>simp [intOf]<;>omega}
 {
 gi_wp2
 refine bodyPost_ret (results_none rfl _ _ _) rfl ?_;exact ⟨⟨_,rfl⟩,.inr ⟨_,MU⟩⟩}};{
 obtain rfl:k=len:=ab
 gi_wp2
 go_end0
 exact ⟨⟨_,rfl⟩,.inl ⟨_,rfl,TJ⟩⟩})
theorem aJ8 (F:Fence) (n:Nat) (h5:F.fn 132) (Zm:F.round=none) (a:Option Addr) (len cap:Nat) (w:World) :
  CallsIn F n prog 132 #[.S a len cap] w fun e w'=>e=.returned (.func (.func 164) #[] #[.pointer (some ⟨w.heap.size,0,none⟩)])/\w'=w.alloc (.cells #[.S a len cap] 22):=by
 refine callsIn_of_wp func132 rfl h5 ?_ Zm;simp only [ntmps132,List.size_toArray,List.length_cons,List.length_nil,Nat.reduceAdd,Nat.reduceSub,Array.replicate_succ,Array.replicate_zero,List.push_toArray,List.append_toArray,List.nil_append,List.cons_append]
 gi_wp2
 go_ret;exact ⟨rfl,rfl⟩
theorem YI (F:Fence) (n:Nat) (h7:F.fn 164) (Zm:F.round=none) (hn:1<=n) (Bs KT b o len cap:Nat) (l:List Int) (hB:bM l) (el:l.length=len) (hlen:len<=8) (hb:b<KT) (w:World) (hBn:Bs<w.heap.size) (bM3:KT<=w.heap.size)
  (hBs:w.cell? ⟨Bs,0,none⟩=some (.S (some ⟨b,o,none⟩) len cap)) (hc:∀ j,j<len->w.cell? ⟨b,o+j,none⟩=some (.int .u8 (l[j]?.getD 0))) :
  SeqStopsK F n prog 164 #[.pointer (some ⟨Bs,0,none⟩)] (fun x:IB=>#[.I x.1.1,.int .u8 x.1.2]) (Ur KT Bs) (fun ys=>ys=EU (Nq l hB) len) (fun _=>True) len w:=fun L J Jx W hW _ _ hY h0=>by
 refine (ap9 F n h7 Zm hn L Bs KT b o len cap l hB el hlen hb J Jx hY W ((hW.cell (p:=⟨Bs,0,none⟩) (by show Bs<_;omega)).trans hBs) (fun j hj=>(hW.cell (p:=⟨b,o+j,none⟩) (by show b<_;omega)).trans (hc j hj)) h0).mono ?_;rintro e W' ⟨he,⟨ys,hy,hj⟩ | ⟨pre,hj⟩⟩;{exact ⟨he,.inl ⟨_,hy,hj⟩⟩};{exact ⟨he,.inr ⟨_,trivial,hj⟩⟩}
def acc (pre:List IB):Int:=pre.foldl (fun a x=>a*256+x.1.2) 0
theorem Ek (pre:List IB) (x:IB):acc (pre++[x])=acc pre*256+x.1.2:=by simp [acc]
theorem NG (k:Nat):∀ pre:List IB,pre.length=k->0<=acc pre/\acc pre<256 ^ k:=by
 induction k with
 | zero=>intro pre h;rw [List.eq_nil_of_length_eq_zero h];simp [acc]
 | succ k ih=>
  intro pre h;rcases pre.eq_nil_or_concat with rfl | ⟨m,x,rfl⟩;{simp at h};{rw [List.concat_eq_append] at h ⊢;rw [Ek];obtain ⟨h0,h1⟩:=ih m (by simpa using h);have:=x.2;rw [Int.pow_succ];omega}
theorem aq1 {pre:List IB} (h:pre.length<8):0<=acc pre/\acc pre*256+256<=18446744073709551616:=by
 obtain ⟨h0,h1⟩:=NG pre.length pre rfl;refine ⟨h0,?_⟩;have h9:((256 ^ pre.length:Nat):Int)<=72057594037927936:=by have h8:=Nat.pow_le_pow_right (n:=256) ab (show pre.length<=7 by omega);have e:256 ^ 7=72057594037927936:=rfl;omega
 rw [Int.natCast_pow] at h9;have h10:acc pre<72057594037927936:=Int.lt_of_lt_of_le h1 h9;omega
theorem aq2 (l:List Int) (hB:bM l) (k:Nat) (hk:k<=l.length):acc (EU (Nq l hB) k)=num (l.drop (l.length-k)):=by
 induction k with
 | zero=>simp [EU,acc,num]
 | succ k ih=>
  rw [FE,Ek,ih ab];have bj:l.length-1-k<l.length:=ab;have e:l.drop (l.length-(k+1))=l[l.length-1-k]::l.drop (l.length-k):=by
   rw [show l.length-(k+1)=l.length-1-k by omega,List.drop_eq_getElem_cons bj]
   congr 2;omega
  rw [e,num];simp [Nq,bj];omega
set_option maxRecDepth 100000 in
theorem K8 (F:Fence) (n:Nat) (h3:F.fn 74) (h5:F.fn 132) (h6:F.fn 164) (Zm:F.round=none) (hn:3<=n) (b o len cap:Nat) (l:List Int) (hB:bM l) (el:l.length=len) (hlen:len<=8) (hb0:0<len) (w:World)
  (hc:∀ j,j<len->w.cell? ⟨b,o+j,none⟩=some (.int .u8 (l[j]?.getD 0))) :
  CallsIn F n prog 74 #[.S (some ⟨b,o,none⟩) len cap] w fun e W'=>e=.returned (.U (num l))/\Bw w W':=by
 have h1:1<=n:=ab;refine callsIn_of_wp_marks func74 rfl h3 ?_ Zm;simp only [ntmps74,List.size_toArray,List.length_cons,List.length_nil,Nat.reduceAdd,Nat.reduceSub,Array.replicate_succ,Array.replicate_zero,List.push_toArray,List.append_toArray,List.nil_append,List.cons_append]
 gi_wp2_with (gi_at_call 132;refine (aJ8 F (n-1) h5 Zm _ _ _ _).mono ?_;rintro e w' ⟨rfl,rfl⟩)
 obtain ⟨W0,dh⟩:=ax ((w.alloc (.cells #[.U 0] 23)).alloc (.cells #[.S (some ⟨b,o,none⟩) len cap] 22));have z0:W0.heap.size=w.heap.size+2:=by rw [dh];simp
 have k0:W0.cell? ⟨w.heap.size,0,none⟩=some (.U 0):=by rw [dh];simp
 have f0:W0.frozen? ⟨w.heap.size,0,none⟩=false:=by rw [dh];simp
 have k1:W0.cell? ⟨w.heap.size+1,0,none⟩=some (.S (some ⟨b,o,none⟩) len cap):=by rw [dh];simp
 have Zr:Bw w W0:=by rw [dh];exact (aJ.alloc aA _).alloc aU _
 have hbw:b<w.heap.size:=World.block_lt_of_cell? w _ (hc 0 hb0);rw [<-dh];clear dh;refine wpIn_rangeFunc_ownF Zm h1 (gf:=164) (lb:=#[.pointer (some ⟨w.heap.size+1,0,none⟩)]) rfl h6 (enters_of func164 cW rfl)
  (YI F (n-1) h6 Zm ab (w.heap.size+1) w.heap.size b o len cap l hB el hlen hbw W0 ab ab k1 (fun j hj=>(Zr.cell (p:=⟨b,o+j,none⟩) hbw).trans (hc j hj))) (fun h k=>h.trans k) (Ur.put ab ab) aJ (fun _=>rfl)
  (fun pre W=>(W.cell? ⟨w.heap.size,0,none⟩=some (.U (acc pre))/\W.frozen? ⟨w.heap.size,0,none⟩=false)/\Bw w W)
  (fun _ _ _=>False)
  (OwnFrom.and (Own.from (fun s A B row hs hg hr=>⟨cell_kept hs.1 hg hr,(frozen_kept hs.1 hg hr).trans hs.2⟩) _) (ownFrom_below aA ab))
  (fun _ _ _ _ _ hs _ _=>hs)
  ⟨⟨k0,f0⟩,Zr⟩
  (fun x=>{ tmps:=#[.S (some ⟨b,o,none⟩) len cap,undef,.U 0,.pointer (some ⟨w.heap.size,0,none⟩),undef,.int .u8 x.1.2,.S (some ⟨b,o,none⟩) len cap,.func (.func 164) #[] #[.pointer (some ⟨w.heap.size+1,0,none⟩)],.I x.1.1,.int .u8 x.1.2,undef,undef,undef,undef,undef,undef],defers:=[] }) ?assign ?body ?done ?stop
 case assign =>(
 intro l x W K hK
 gi_wp2
 exact hK)
 case body =>(
 rintro L pre x W ⟨⟨Bo,hf⟩,js⟩ jR;obtain ⟨a0,a1⟩:=aq1 (pre:=pre) ab;obtain ⟨x0,x1⟩:=x.2;have HS:=ae (Ek pre x);generalize acc pre=a at *;generalize x.1.2=y at *;have ai9:bits .or .u64 (a*256) y=a*256+y:=by exact bits_join .u64 64 bl wraps_u64 8 (a*256) y ab ab ab x0 ab ab
 have EJ:=ae ai9;clear ai9
 gi_wp2
 refine ⟨KeepsOthers.setCell _ _ _,⟨(Below.refl w.heap.size W).setCell (p:=⟨w.heap.size,0,none⟩) aA _,World.cell?_setCell_far _ _ _ _ aU⟩,⟨?_,by rw [World.frozen?_setCell];exact hf⟩,js.setCell (p:=⟨w.heap.size,0,none⟩) aA _⟩;rw [aa HS,<-aa EJ];exact World.cell?_setCell_same' _ _ _ (by rw [Bo];rfl))
 case done =>(
 rintro D ys W hD rfl ⟨⟨Bo,hf⟩,js⟩ hK
 gi_wp2
 refine ⟨aU,.inl ⟨_,_,rfl,run_takeDeferred hK,?_⟩⟩;exact ⟨_,results_tmp rfl _ _ _,by rw [<-el,aq2 l hB l.length aA];simp,js.trans (belowK_b (w:=w) aA W D _ _ ab hK rfl rfl)⟩)
 case stop =>(
 rintro D c pre W _ _ h _;exact h.elim)
theorem Is (l:List Int) (p:Option Addr) (c n:Nat) (en:Hid (l.length=n)) (w:World) (h:Rd w (.S p n c) l) (hb:bM l) (hn:n<=8) (h0:0<n) :
  Calls prog 74 #[.S p n c] w fun e w'=>e=.returned (.U (num l))/\Bw w w':=by
 have e:=aa en;obtain ⟨b,o,rfl,-,hc⟩:=h.at ab;refine callsIn_wide.1 (K8 Fence.wide 3 trivial trivial trivial rfl ab b o n c l hb e hn h0 w (fun j hj=>?_));rw [hc j ab]
 rfl
def sm (l:List Int):List Int:=l++le (ck l) 4
theorem Gr (l:List Int):(sm l).length=l.length+4:=by simp [sm,uF]
theorem al7 (h:bM l):bM (sm l):=h.append (PG _ _)
theorem am4 {w:World} {v1 v2 v3:Value} {l1 l2 l3:List Int} (c0:w.cell? ⟨g,0,none⟩=some v0) (c1:w.cell? ⟨g,1,none⟩=some v1) (c2:w.cell? ⟨g,2,none⟩=some v2) (c3:w.cell? ⟨g,3,none⟩=some v3) (r0:Rd w v0 l0) (r1:Rd w v1 l1) (r2:Rd w v2 l2) (r3:Rd w v3 l3):uK w g [v0,v1,v2,v3] [l0,l1,l2,l3]:=by
 refine ⟨rfl,fun j v x e1 e2=>?_⟩
 match j,e1,e2 with
 | 0,e1,e2=>simp at e1 e2;subst e1 e2;exact ⟨c0,r0⟩
 | 1,e1,e2=>simp at e1 e2;subst e1 e2;exact ⟨c1,r1⟩
 | 2,e1,e2=>simp at e1 e2;subst e1 e2;exact ⟨c2,r2⟩
 | 3,e1,e2=>simp at e1 e2;subst e1 e2;exact ⟨c3,r3⟩
theorem Og (p:Option Addr) (c n:Nat) (l:List Int) (en:Hid (l.length=n)) (w:World) (h:Rd w (.S p n c) l) (hb:bM l) (hl:n<=2097152) :
  Calls prog 76 #[.S p n c] w fun e w'=>∃ p' c',e=.returned (.S p' (n+4) c')/\Own w.heap.size w' (.S p' (n+4) c') (sm l)/\Bw w w':=by
 have e1:=aa en;subst e1;obtain ⟨k0,k1⟩:=aj4 l;go_enter func76,ntmps76;go_wp2_with fail;refine (PY p c l _ h hb ab).mono ?_;rintro e w1 ⟨rfl,b1⟩;go_wp2_with fail;refine (sG 4 (ck l) _ ab k0 ab).mono ?_;rintro e w2 ⟨p2,c2,rfl,o2,cX⟩;have b2:=ah b1 cX;have r0:=h.below b2;have r2:=o2.rd;clear h b1 cX o2;go_wp2_with fail;refine (xh w2.heap.size [.S p l.length c,.S p2 4 c2] [l,le (ck l) 4] (sm l) (l.length+4) 2 rfl (by show _=_;rw [af3];rfl) (by show _=_;exact Gr l) _ (Wp aU aU (r0.below (aJ.alloc aA _)) (r2.below (aJ.alloc aA _))) ab ab).mono ?_;rintro e w3 ⟨p3,c3,rfl,o3,de⟩;have b3:=ah (b2.alloc b2.size _) de;have o4:Own w.heap.size w3 (.S p3 (l.length+4) c3) (sm l):=Own.mono o3 (by have:=b2.size;simp;omega);clear r0 r2 b2 de o3;go_wp2;go_ret;exact ⟨p3,c3,rfl,o4,b3⟩
def EY:List Int:=[76,72,83,49]
theorem lh:EY.length=4:=rfl
def mI (s:Int) (l:List Int):List Int:=EY++le s 8++le l.length 4++l
def mf (s:Int) (l:List Int):List Int:=sm (mI s l)
theorem mM (s:Int) (l:List Int):(mI s l).length=l.length+16:=by simp [mI,uF,lh];omega
theorem xQ (s:Int) (l:List Int):(mf s l).length=l.length+20:=by rw [mf,Gr,mM]
theorem xO (h:bM l):bM (mI s l):=by
 refine bM.append (bM.append (bM.append ?_ (PG _ _)) (PG _ _)) h;intro z hz;simp [EY] at hz;omega
theorem Gq (h:bM l):bM (mf s l):=al7 (xO h)
theorem yv (w:World) (C:Array Value) (e:TypeId) (fr:Nat × Nat) (i:Nat):(w.alloc (.cells C e fr)).cell? ⟨w.heap.size,i,none⟩=C[i]?:=by
 have h:(w.alloc (.cells C e fr)).heap[w.heap.size]?=some (.cells C e fr):=by show (w.heap.push (.cells C e fr))[w.heap.size]?=_;simp
 unfold World.cell?;rw [h]
 rfl
theorem CI (s:Int) (p:Option Addr) (c n:Nat) (l:List Int) (en:Hid (l.length=n)) (w:World) (h:Rd w (.S p n c) l) (hb:bM l) (hl:n<=2000000) (s0:0<=s) (s1:s<18446744073709551616) :
  Calls prog 28 #[.U s,.S p n c] w fun e w'=>∃ p' c',e=.returned (.S p' (n+20) c')/\Own w.heap.size w' (.S p' (n+20) c') (mf s l)/\Bw w w':=by
 go_enter func28,ntmps28;go_wp2_with fail;refine (sG 4 n _ ab ab ab).mono ?_;rintro e w1 ⟨p1,c1,rfl,o1,bq⟩;have hcv:=Lib.run_convert_bytes_const (P:=prog) w1 22 5 #[.int .u8 76,.int .u8 72,.int .u8 83,.int .u8 49] 4 4 underlying22 underlying5;simp only [show (#[Value.int .u8 76,.int .u8 72,.int .u8 83,.int .u8 49]:Array Value).size=4 from rfl] at hcv;have r0:Rd (w1.alloc (.cells #[.int .u8 76,.int .u8 72,.int .u8 83,.int .u8 49] 5 (4,5))) (.S (some ⟨w1.heap.size,0,none⟩) 4 4) EY:=by
  refine ⟨_,_,rfl,.inr ⟨w1.heap.size,0,rfl,fun i hi=>?_⟩⟩;rw [lh] at hi
  match i,hi with
  | 0,_=>(rw [Nat.zero_add,yv];rfl)
  | 1,_=>(rw [Nat.zero_add,yv];rfl)
  | 2,_=>(rw [Nat.zero_add,yv];rfl)
  | 3,_=>(rw [Nat.zero_add,yv];rfl)
 have HR:=ae r0;have bA:Bw w1 (w1.alloc (.cells #[.int .u8 76,.int .u8 72,.int .u8 83,.int .u8 49] 5 (4,5))):=aJ.alloc aA _;have b0:=ah bq bA;clear r0;go_wp2_with fail;refine (sG 8 s _ ab s0 s1).mono ?_;rintro e w2 ⟨p2,c2,rfl,o2,cX⟩;have b2:=ah b0 cX;have rm:=HR.below cX;have rb:=h.below b2;have r1:=(o1.rd.below bA).below cX;have r2:=o2.rd;have HB:=ae hb;have WO:=aa en;clear bq o1 bA b0 cX o2 h hb HR;go_wp2_with fail;refine (xh w2.heap.size [.S (some ⟨w1.heap.size,0,none⟩) 4 4,.S p2 8 c2,.S p1 4 c1,.S p n c] [EY,le s 8,le n 4,l] (mI s l) (n+16) 4 rfl (by show _=_;rw [bz2,mI,aa en]) (by show _=_;rw [mM,aa en]) _ (am4 aU aU aU aU (rm.below (aJ.alloc aA _)) (r2.below (aJ.alloc aA _)) (r1.below (aJ.alloc aA _)) (rb.below (aJ.alloc aA _))) ab ab).mono ?_;rintro e w3 ⟨p3,c3,rfl,o3,de⟩;have b3:=ah (b2.alloc b2.size _) de;have r3:=o3.rd;clear b2 de o3 rm r2 r1 rb;go_wp2_with fail;refine (Og p3 c3 (n+16) (mI s l) (by show _=_;rw [mM,aa en]) _ r3 (xO (aa HB)) ab).mono ?_;rintro e w4 ⟨p4,c4,rfl,o4,gL⟩;have b4:=ah b3 gL;have o5:Own w.heap.size w4 (.S p4 (n+20) c4) (mf s l):=Own.mono o4 b3.size;clear b3 gL o4 r3;go_wp2;go_ret;exact ⟨p4,c4,rfl,o5,b4⟩
def sub (l:List Int) (i j:Nat):List Int:=(l.take j).drop i
theorem Dy {j:Nat} (hj:j<=l.length):(sub l i j).length=j-i:=by simp [sub];omega
theorem bM.sub (h:bM l) (i j:Nat):bM (sub l i j):=fun z hz=>h z (List.mem_of_mem_take (List.mem_of_mem_drop hz))
theorem am5 {w:World} (c0:w.cell? ⟨g,0,none⟩=some v0) (r0:Rd w v0 l0):uK w g [v0] [l0]:=by
 refine ⟨rfl,fun j v x e1 e2=>?_⟩
 match j,e1,e2 with
 | 0,e1,e2=>simp at e1 e2;subst e1 e2;exact ⟨c0,r0⟩
def ak3 (w:World) (S:Int) (R:List Int) (N:Nat) (code:Int) (e:Ending) (w':World):Prop:=
 ∃ p c,e=.returned (.tuple #[.U S,.S p N c,.I code])/\Own w.heap.size w' (.S p N c) R/\Bw w w'
def Dk (w:World) (l:List Int) (n:Nat) (e:Ending) (w':World):Prop:=
 if mf (num (sub l 4 12)) (sub l 16 (n-4))=l then ak3 w (num (sub l 4 12)) (sub l 16 (n-4)) (n-20) 0 e w' else ak3 w 0 [] 0 13 e w'
theorem ac0 (b o c n:Nat) (l:List Int) (en:Hid (l.length=n)) (w:World) (h:Rd w (.S (some ⟨b,o,none⟩) n c) l) (hb:bM l) (hn:20<=n) (hm:n<=1048576) (hc:n<=c) (Bn:c<=maxLen) :
  Calls prog 27 #[.S (some ⟨b,o,none⟩) n c] w (Dk w l n):=by
 have I0:¬ (n:Int)<20:=ab;obtain ⟨k,ek⟩:∃ k:Nat,(n:Int)-4=(k:Int):=⟨n-4,ab⟩;have g1:=vj n c;have g2:=dE 12 c;have g3:=vj k c;have g4:=dE 16 k;have g5:c≠4:=ab;have g6:c≠16:=ab;have WO:=aa en;have Ex:n=k+4:=ab;have av7:(sub l 4 12).length=8:=Dy ab;have av6:(sub l 16 k).length=k-16:=Dy ab;have r1:∀ (d:Nat) (w':World),Bw w w'->Rd w' (.S (some ⟨b,o+4,none⟩) 8 d) (sub l 4 12):=fun d w' cR=>(h.below cR).cut 4 12 ab ab _ (.inr rfl) d _ rfl;have r2:∀ (d:Nat) (w':World),Bw w w'->Rd w' (.S (some ⟨b,o+16,none⟩) (k-16) d) (sub l 16 k):=fun d w' cR=>(h.below cR).cut 16 k ab ab _ (.inr rfl) d _ rfl;obtain ⟨s0,s1⟩:=aa1 (hb.sub 4 12) ab;have HB:=ae hb;have H1:=ae av7;have H2:=ae av6;have HK:=ae Ex;have Us:=ae r1;have HR2:=ae r2;have HH:=ae h;have eb:mf (num (sub l 4 12)) (sub l 16 (n-4))=mf (num (sub l 4 12)) (sub l 16 k):=by rw [Ex];rfl
 have HE:=ae eb;clear hb av7 av6 r1 r2 h WO Ex eb;go_enter func27,ntmps27;go_wp2_with fail;refine (Is (sub l 4 12) _ _ 8 H1 _ (aa Us _ _ aJ) (HB.sub 4 12) ab ab).mono ?_;rintro e w1 ⟨rfl,b1⟩;go_wp2_with fail;refine (CI (num (sub l 4 12)) _ _ (k-16) (sub l 16 k) H2 _ (aa HR2 _ _ b1) (HB.sub 16 k) ab s0 s1).mono ?_;rintro e w2 ⟨p2,c2,rfl,o2,cX⟩;have b2:=ah b1 cX;clear b1 cX;go_wp2_with fail;refine (mA _ _ _ _ _ n (mf (num (sub l 4 12)) (sub l 16 k)) l (by show _=_;rw [xQ,aa H2]) en _ o2.rd (HH.below b2) (Gq (HB.sub 16 k)) (aa HB)).mono ?_;rintro e w3 ⟨rfl,de⟩;have b3:=ah b2 de;clear b2 de o2;by_cases hq:mf (num (sub l 4 12)) (sub l 16 k)=l;{
 have hd:decide (mf (num (sub l 4 12)) (sub l 16 k)=l)=true:=by simp [hq]
 rw [hd];have HQ:=ae hq;clear hq hd;go_wp2_with fail;refine (xh w3.heap.size [.S (some ⟨b,o+16,none⟩) (k-16) (c-16)] [sub l 16 k] (sub l 16 k) (k-16) 1 rfl (by show _=_;rw [af5]) H2 _ (am5 aU ((aa HR2 _ _ b3).below (aJ.alloc aA _))) ab ab).mono ?_;rintro e w4 ⟨p4,c4,rfl,o4,gL⟩;have b4:=ah (b3.alloc b3.size _) gL;have o5:Own w.heap.size w4 (.S p4 (k-16) c4) (sub l 16 k):=Own.mono o4 (by have:=b3.size;simp;omega);clear b3 gL o4;go_wp2;refine bodyPost_ret (v:=.tuple #[.U (num (sub l 4 12)),.S p4 (k-16) c4,.I 0]) (by simp [results,results27,go_sem]) rfl ?_;unfold Dk;rw [aa HE,if_pos (aa HQ)];have e1:n-20=k-16:=by have:=aa HK;omega
 have e2:n-4=k:=by have:=aa HK;omega
 rw [e1,e2];exact ⟨p4,c4,rfl,o5,b4⟩};{
 have hd:decide (mf (num (sub l 4 12)) (sub l 16 k)=l)=false:=by simp [hq]
 rw [hd];have HQ:=ae hq;clear hq hd;go_wp2;refine bodyPost_ret (v:=.tuple #[.U 0,.S none 0 0,.I 13]) (by simp [results,results27,go_sem]) rfl ?_;unfold Dk;rw [aa HE,if_neg (aa HQ)];exact ⟨none,0,rfl,World.ownsRow_nil _ _ _ _,b3⟩}
def yN (P:Program) (md:Region.Mode) (ops:Array Oper) (Q:Exit->Act->World->Prop) (S:World->Prop) (x:Nat):Nat->Array Bool->Act->World->Prop
 | 0,l,a,w=>Region.ready md ops l=[]/\Q .normal a w
 | n+1,l,a,w=>(Region.ready md ops l=[]->Q .normal a w)/\∀ i∈Region.ready md ops l,wpOp P ops Q i (fun a' w'=>(i=x\/S w')/\yN P md ops Q S x n (l.setIfInBounds i true) a' w') a w
section
variable {P:Program} {md:Region.Mode} {ops:Array Oper} {Q:Exit->Act->World->Prop} {S:World->Prop} {x:Nat}
theorem QI:∀ (n:Nat) (l:Array Bool) (a:Act) (w:World),yN P md ops Q S x n l a w->wpAny P md ops Q n l a w
 | 0,_,_,_,h=>h
 | n+1,_,_,_,h=>⟨h.1,fun i hi=>wpOp_mono (fun a' w' k=>QI n _ a' w' k.2) (h.2 i hi)⟩
theorem Io (hi:ops[i]?=some oi) (hs:∀ (j:Nat) (o:Oper) cs b,ops[j]?=some o->o.op≠.select cs b) (hQ:∀ c a w,Q (.panic c) (a.put oi.dst v) w->Q (.panic c) a w) (hx:∀ o,ops[x]?=some o->∃ e∈o.after,Region.binds md e=true/\e.on=i) :
  ∀ (n:Nat) (l:Array Bool) (a:Act) (w:World),(∀ j oj,ops[j]?=some oj->j≠i->l.getD j true=false->(∀ e∈oj.after,Region.binds md e=true->e.on≠i)->oi.apart ops oj=true)->i∈Region.ready md ops l->YieldsIf P ops S oi v a->S w->yN P md ops Q S x n (l.setIfInBounds i true) (a.put oi.dst v) w->yN P md ops Q S x (n+1) l a w:=by
 intro n
 induction n with
 | zero=>
  intro l a w _ hr hy hS H;refine ⟨fun e=>(by rw [e] at hr;cases hr),fun j hj=>?_⟩;by_cases e:j=i;{rw [e];exact hy.wpOp hi hS ⟨.inr hS,H⟩};{have k:=ready_mono hj e;rw [H.1] at k;cases k}
 | succ n ih=>
  intro l a w hf hr hy hS H;refine ⟨fun e=>(by rw [e] at hr;cases hr),fun j hj=>?_⟩;by_cases e:j=i;{rw [e];exact hy.wpOp hi hS ⟨.inr hS,H⟩};{
 obtain ⟨ac4,oj,hoj,lK⟩:=mem_ready.1 hj;have jS:∀ z∈oj.after,Region.binds md z=true->z.on≠i:=fun z hz hb hzi=>by have k1:=lK z hz hb;have k0:=(mem_ready.1 hr).1;rw [hzi] at k1;by_cases hl:i<l.size;{simp [hl] at k0 k1;rw [k0] at k1;cases k1};{simp [Array.getElem?_eq_none (Nat.le_of_not_lt hl)] at k1}
 have hjx:j≠x:=fun ex=>by subst ex;obtain ⟨z,hz,hb,hzi⟩:=hx oj hoj;exact jS z hz hb hzi
 refine wpOp_mono (fun a' w' k=>?_) (wpOp_putIf hoj (hf j oj hoj e ac4 jS) (fun cs b=>hs i oi cs b hi) (fun cs b=>hs j oj cs b hoj) hQ hy (H.2 j (ready_mono hj e)));have Cg:S w':=k.2.1.resolve_left hjx;refine ⟨.inr Cg,ih (l.setIfInBounds j true) a' w' (fun k' ok hk hki JX hn=>hf k' ok hk hki ?_ hn) (ready_mono hr (Ne.symm e)) k.1 Cg ?_⟩;{by_cases hjk:j=k';{rw [<-hjk];exact ac4};{rw [getD_set_ne true hjk] at JX;exact JX}};{rw [Array.setIfInBounds_comm _ _ e];exact k.2.2}}
theorem rA {n:Nat} {l:Array Bool} {w:World} (h:Q .normal a w) (hr:Region.ready md ops l=[]:=by kernel_rfl):yN P md ops Q S x n l a w:=by
 cases n with
 | zero=>exact ⟨hr,h⟩
 | succ n=>exact ⟨fun _=>h,by rw [hr];simp⟩
theorem fk (i:Nat) {n:Nat} {l:Array Bool} {w:World} {o:Oper}
  (h:∀ K':Act->World->Prop,Shut (∀ a w,(i=x\/S w)->((i=x\/S w)->yN P md ops Q S x n (l.setIfInBounds i true) a w)->K' a w)->if Region.wanted o (yielded ops a.tmps)=true then Oper.wp P o a w K' Q else K' (a.put o.dst undef) w)
  (hi:ops[i]?=some o:=by (simp only [List.getElem?_toArray,List.getElem?_cons_succ,List.getElem?_cons_zero];rfl)) (hr:Region.ready md ops l=[i]:=by kernel_rfl):yN P md ops Q S x (n+1) l a w:=by
 refine ⟨fun e=>?_,fun j hj=>?_⟩;{rw [hr] at e;cases e};{rw [hr] at hj;obtain rfl:=List.mem_singleton.1 hj;exact wpOp_step hi (fun K' hK=>h K' (fun a w hS hW=>hK a w ⟨hS,hW hS⟩))}
def TE (P:Program) (md:Region.Mode) (ops:Array Oper) (Q:Exit->Act->World->Prop) (S:World->Prop) (x:Nat) (l:Array Bool) (i:Nat) (a a':Act):Prop:=∀ n w,S w->yN P md ops Q S x n (l.setIfInBounds i true) a' w->yN P md ops Q S x (n+1) l a w
theorem Y5 {v:Value} {l:Array Bool} {a a':Act}
  (hi:ops[i]?=some oi:=by (simp only [List.getElem?_toArray,List.getElem?_cons_succ,List.getElem?_cons_zero];rfl))
  (hs:Region.noSelect ops=true:=by kernel_rfl) (hf:Region.free md ops l i=true:=by kernel_rfl) (hr:(Region.ready md ops l).contains i=true:=by kernel_rfl)
  (hx:((ops[x]?.map fun o=>o.after.toList.any fun e=>Region.binds md e&&e.on==i).getD false)=true:=by kernel_rfl)
  (hQ:∀ c a w,Q (.panic c) (a.put oi.dst v) w->Q (.panic c) a w:=by exact fun _ _ _ h=>h) (hg:Region.wanted oi (yielded ops a.tmps)=true:=by rfl)
  (hy:∀ w,S w->(execOp a.eval oi).run P w=.ok (.value v) w:=by (intro w' qi;(try dsimp only at qi);go_simp;try with_reducible rfl)) (ha:a.put oi.dst v=a':=by (simp only [Act.put,xa,xb,xc];rfl)):TE P md ops Q S x l i a a':=
 fun n w hS h=>Io hi (Region.noSelect_spec hs) hQ (fun o ho=>by rw [ho] at hx;simp only [Option.map_some,Option.getD_some,List.any_eq_true,Bool.and_eq_true,beq_iff_eq] at hx;obtain ⟨e,he,h1,h2⟩:=hx;exact ⟨e,by simpa using he,h1,h2⟩) n l a w (Region.free_spec hi hf) (by simpa using hr) (Or.inl ⟨hg,hy⟩) hS (ha▸h)
theorem tEo (i:Nat) {v:Value} {n:Nat} {l:Array Bool} {a a':Act} {w:World} (hS:S w) (h:yN P md ops Q S x n (l.setIfInBounds i true) a' w)
  (hi:ops[i]?=some oi:=by (simp only [List.getElem?_toArray,List.getElem?_cons_succ,List.getElem?_cons_zero];rfl)) (hr:Region.ready md ops l=[i]:=by kernel_rfl) (hg:Region.wanted oi (yielded ops a.tmps)=true:=by rfl)
  (hy:∀ w,S w->(execOp a.eval oi).run P w=.ok (.value v) w:=by (intro w' qi;(try dsimp only at qi);go_simp;try with_reducible rfl)) (ha:a.put oi.dst v=a':=by (simp only [Act.put,xa,xb,xc];rfl)):yN P md ops Q S x (n+1) l a w:=by
 refine ⟨fun e=>(by rw [hr] at e;cases e),fun j hj=>?_⟩;rw [hr] at hj;obtain rfl:=List.mem_singleton.1 hj;have hY:YieldsIf P ops S oi v a:=Or.inl ⟨hg,hy⟩;exact hY.wpOp hi hS ⟨.inr hS,ha▸h⟩
theorem JQ (i:Nat) {n:Nat} {l:Array Bool} {w:World} (hS:S w) (h:yN P md ops Q S x n (l.setIfInBounds i true) a' w) (t:TE P md ops Q S x l i a a':=by exact Y5):yN P md ops Q S x (n+1) l a w:=t _ _ hS h
theorem Tb (i0 i1 i2 i3:Nat) {n:Nat} {l:Array Bool} {a0 a1 a2 a3 a4:Act} {w:World} (hS:S w) (h:yN P md ops Q S x n ((((l.setIfInBounds i0 true).setIfInBounds i1 true).setIfInBounds i2 true).setIfInBounds i3 true) a4 w) (x0:TE P md ops Q S x l i0 a0 a1:=by exact Y5) (x1:TE P md ops Q S x (l.setIfInBounds i0 true) i1 a1 a2:=by exact Y5) (x2:TE P md ops Q S x ((l.setIfInBounds i0 true).setIfInBounds i1 true) i2 a2 a3:=by exact Y5) (x3:TE P md ops Q S x (((l.setIfInBounds i0 true).setIfInBounds i1 true).setIfInBounds i2 true) i3 a3 a4:=by exact Y5):yN P md ops Q S x (n+4) l a0 w:=x0 _ _ hS (x1 _ _ hS (x2 _ _ hS (x3 _ _ hS h)))
theorem NU {i n:Nat} {l:Array Bool} {w:World} (hK:Shut (∀ a w,(i=x\/S w)->((i=x\/S w)->yN P md ops Q S x n l a w)->K a w)) (hS:S w) (h:S w->yN P md ops Q S x n l a' w) (ha:a=a':=by ((try simp only [Act.put,xa,xb,xc]);rfl)):K a w:=hK.out _ _ (.inr hS) fun _=>ha▸h hS
theorem oGX {n:Nat} {l:Array Bool} {w:World} (hK:Shut (∀ a w,(x=x\/S w)->((x=x\/S w)->yN P md ops Q S x n l a w)->K a w)) (h:yN P md ops Q S x n l a w):K a w:=hK.out _ _ (.inl rfl) fun _=>h
theorem kP (x:Nat) {id:Nat} {w:World} (hS:S w.drew) (h:S w.drew->yN P .any ops Q S x ops.size (Array.replicate ops.size false) a w.drew) (hm:P.follows .mixedOrders=true:=by kernel_rfl):(Code.region id ops true).wp P Q a w:=
 wp_region_any hm (QI _ _ _ _ (h hS))
end
abbrev ah9 (se pa:Bool) (lo hi vs:Int) (sq jo:Bool):Value:=.agg #[.bool se,.bool pa,.I lo,.I hi,.I vs,.bool sq,.bool jo]
theorem zs (se:Bool) (s:Int):se=true\/(se=false/\s=0)\/(se=false/\(s==0)=false):=by
 cases se;{exact .inr ((zf 0 s).imp (⟨rfl,·⟩) (⟨rfl,·⟩))};{exact .inl rfl}
theorem zp (pa:Bool) (n:Nat):pa=true\/(pa=false/\n=0)\/(pa=false/\((n:Int)==0)=false):=by
 rcases zs pa n with h | ⟨h,h2⟩ | h;{exact .inl h};{exact .inr (.inl ⟨h,ab⟩)};{exact .inr (.inr h)}
theorem XG (se pa:Bool) (lo hi vs:Int) (sq jo:Bool) (k s f e g:Int) (p q:Option Addr) (n m c d:Nat) (w:World) (B:Bool) (eB:Hid (Jf se pa lo hi vs sq s f n m e g=B)) :
  Calls prog 127 #[ah9 se pa lo hi vs sq jo,X5 k s (.S p n c) f (.S q m d) e g] w fun r w'=>r=.returned (.bool B)/\Bw w w':=by
 rcases zs se s with rfl | ⟨rfl,rfl⟩ | ⟨rfl,dd⟩
 all_goals (first | (have x:=dd;clear x) | rcases zp pa n with rfl | ⟨rfl,rfl⟩ | ⟨rfl,dd⟩)
 all_goals (first | (have x:=dd;clear x) | rcases Decidable.em (lo<=f) with h1 | dd)
 all_goals (first | (have x:=dd;clear x) | rcases Decidable.em (f<=hi) with h2 | dd)
 all_goals (first | (have x:=dd;clear x) | rcases Decidable.em ((m:Int)<=vs) with h3 | dd)
 all_goals (first | (have x:=dd;clear x) | rcases zs sq e with rfl | ⟨rfl,rfl⟩ | ⟨rfl,dd⟩)
 all_goals (first | (have x:=dd;clear x) | rcases zf 0 g with rfl | hg)
 all_goals (cases B<;>first | (exfalso;have h:=aa eB;clear eB;simp_all [Jf]<;>omega) | clear eB)
 all_goals (go_enter func127,ntmps127;go_wp2;go_ret;exact ⟨rfl,(aJ.alloc aA _).alloc aU _⟩)
abbrev sR (w:World) (G o:Nat) (se pa:Bool) (lo hi vs:Int) (sq jo:Bool):Prop:=w.cell? ⟨G,o,none⟩=some (.bool se)/\w.cell? ⟨G,o+1,none⟩=some (.bool pa)/\w.cell? ⟨G,o+2,none⟩=some (.I lo)/\w.cell? ⟨G,o+3,none⟩=some (.I hi)/\w.cell? ⟨G,o+4,none⟩=some (.I vs)/\w.cell? ⟨G,o+5,none⟩=some (.bool sq)/\w.cell? ⟨G,o+6,none⟩=some (.bool jo)
theorem sR.below {w w':World} {G:Nat} {se pa:Bool} {sq jo:Bool} (h:sR w G o se pa lo hi vs sq jo) (hb:Bw w w'):sR w' G o se pa lo hi vs sq jo:=
 ⟨af h.1 hb,af h.2.1 hb,af h.2.2.1 hb,af h.2.2.2.1 hb,af h.2.2.2.2.1 hb,af h.2.2.2.2.2.1 hb,af h.2.2.2.2.2.2 hb⟩
theorem vT (k:Nat) (nw:1<=k) (yC:k<=13) (se pa:Bool) (lo hi vs:Int) (sq jo:Bool) (s f e g:Int) (p q:Option Addr) (n m c d:Nat) (w:World) (hT:sR w 0 (k*7) se pa lo hi vs sq jo) (B:Bool) (eB:Hid (Jf se pa lo hi vs sq s f n m e g=B)) :
  Calls prog 60 #[X5 k s (.S p n c) f (.S q m d) e g] w fun r w'=>r=.returned (.bool B)/\Bw w w':=by
 have h1:=dE 1 k;have h2:(k:Int)<=13:=ab;have h3:(k:Int)<14:=ab;have h4:k<14:=ab;have h5:=dE 0 k;go_enter func60,ntmps60;go_wp2_with fail;obtain ⟨W,hW⟩:=ax (w.alloc (.cells #[.I k,.U s,.S p n c,.I f,.S q m d,.U e,.U g] 29));have bW:=ju hW;have hA:sc W w.heap.size (.I k) (.U s) (.S p n c) (.I f) (.S q m d) (.U e) (.U g):=by rw [hW];simp [sc,go_sem]
 have XA:=hT.below bW;rw [<-hW];clear hW hT
 go_region_held3 (fun w'=>sc w' w.heap.size (.I k) (.U s) (.S p n c) (.I f) (.S q m d) (.U e) (.U g)/\sR w' 0 (k*7) se pa lo hi vs sq jo) (first | exact ⟨hA,XA⟩ | exact ⟨MI,hT1⟩)
  (first | (go_at_call 127;refine (XG se pa lo hi vs sq jo k s f e g p q n m c d _ B eB).mono ?_;rintro r w1 ⟨rfl,bq⟩;have cR:Bw W w1:=(by first | exact bq | exact ah (Below.refl W.heap.size W).drew bq);have MI:=hA.below cR;have hT1:=XA.below cR))
 have b1:=ah bW cR;clear hA XA MI hT1 bq cR bW;go_wp2;go_ret;exact ⟨rfl,b1⟩
theorem vS (k s f e g:Int) (p q:Option Addr) (n m c d:Nat) (w:World) (hk:k<1\/13<k) :
  Calls prog 60 #[X5 k s (.S p n c) f (.S q m d) e g] w fun r w'=>r=.returned (.bool false)/\Bw w w':=by
 have b0:∀ o:Obj,Bw w (w.alloc o):=fun o=>aJ.alloc aA _;by_cases h1:k<1;{
 have Hr:¬ (1:Int)<=k:=ab;have h1d:decide ((1:Int)<=k)=false:=by simp;omega
 go_enter func60,ntmps60;go_wp2_with fail
 go_region
 all_goals (
  go_wp2;go_ret;exact ⟨rfl,by first | exact b0 _ | exact (b0 _).drew⟩)}
 {
 have Hr:(1:Int)<=k:=ab;have h2':¬ k<=13:=ab;have h1d:decide ((1:Int)<=k)=true:=by simp;omega
 have h2d:decide (k<=(13:Int))=false:=by simp;omega
 go_enter func60,ntmps60;go_wp2_with fail
 go_region
 all_goals (
  go_wp2;go_ret;exact ⟨rfl,by first | exact b0 _ | exact (b0 _).drew⟩)}
theorem mu.aE6 {w:World} {es:List Ev} (h:mu B w v es):jJ w v es:=by
 obtain ⟨p,c,rfl,-,-,hp⟩:=RT.form h;refine ⟨p,c,rfl,?_⟩;by_cases h0:es=[];{exact .inl h0};{obtain ⟨g,rfl⟩:=hp (List.length_pos_iff.2 h0);refine .inr ⟨g,0,rfl,fun i e hi=>?_⟩;obtain ⟨cc,-,⟨P,ec,tP⟩,hc,-⟩:=RT.at h hi;subst ec;exact ⟨by have:=hc 0 _ rfl;simpa using this,P,by have:=hc 1 _ rfl;simpa using this,tP.1,tP.2.2⟩}
theorem SpS.Zv {w:World} {ss:List aY} {Qs:List Value} (h:SpS B w v ss Qs):ic w v ss:=by
 have hz:(ss.zip Qs).length=ss.length:=by rw [List.length_zip,h.len];simp
 obtain ⟨p,c,e,-,-,hp⟩:=RT.form h.row;rw [hz] at e hp;subst e;refine ⟨p,c,rfl,?_⟩;by_cases h0:ss=[];{exact .inl h0};{obtain ⟨g,rfl⟩:=hp (List.length_pos_iff.2 h0);refine .inr ⟨g,0,rfl,fun i s hi=>?_⟩;have Bg:=(aN.1 hi).1;obtain ⟨Q,hQ⟩:∃ Q,Qs[i]?=some Q:=⟨_,aK (by rw [h.len];exact Bg)⟩;obtain ⟨cc,-,ec,hc,-⟩:=RT.at h.row (i:=i) (x:=(s,Q)) (by rw [List.getElem?_zip_eq_some];exact ⟨hi,hQ⟩);rw [show cc=_ from ec] at hc;exact ⟨by have:=hc 0 _ rfl;simpa using this,by have:=hc 1 _ rfl;simpa using this,Q,by have:=hc 2 _ rfl;simpa using this,(h.za i s Q hi hQ).aE6⟩}
open Go.Deep
theorem qB (v1 v2:Value) (l1 l2:List Int) (w:World) (h1:Rd w v1 l1) (h2:Rd w v2 l2) (Cd:l1.length<=2097152) (uW:l2.length<=2097152) :
  Calls prog 20 #[v1,v2] w fun e w'=>e=.returned (.bool (decide (l1=l2)))/\Bw w w':=by
 obtain ⟨p1,cd6,rfl,h1⟩:=h1;obtain ⟨p2,cd5,rfl,h2⟩:=h2;by_cases hlen:l1.length=l2.length;{
 have gd:((l1.length:Int) != (l2.length:Int))=false:=by simp;omega
 go_enter func20,ntmps20;go_wp2
 go_loopw [5] (fun i wr=>∃ k:Nat,k<=l1.length/\i=.I k/\l1.take k=l2.take k/\Bw w wr) (fun i _=>l1.length-(intOf i).toNat)
 case atStart=>exact ⟨0,Nat.zero_le _,rfl,rfl,Below.refl _ _⟩
 case round =>(
 obtain ⟨k,hk,rfl,ht,aR⟩:=hrel;have HT:Hid (l1.take k=l2.take k):=ht;clear ht;by_cases bj:k<l1.length;{
 rcases h1 with rfl | ⟨b1,o1,rfl,kH⟩;{simp at bj};{
 rcases h2 with rfl | ⟨b2,o2,rfl,jF⟩;{simp at hlen;subst hlen;simp at bj};{
 have tI:k<l2.length:=ab;have g1:wr.cell? ⟨b1,o1+k,none⟩=some (.int .u8 (l1.getD k 0)):=(aR.cell (p:=⟨b1,o1+k,none⟩) (World.block_lt_of_cell? w _ (kH k bj))).trans (kH k bj);have g2:wr.cell? ⟨b2,o2+k,none⟩=some (.int .u8 (l2.getD k 0)):=(aR.cell (p:=⟨b2,o2+k,none⟩) (World.block_lt_of_cell? w _ (jF k tI))).trans (jF k tI);have i1:(k:Int)<(l1.length:Int):=ab;have i2:(k:Int)<(l2.length:Int):=ab;have HL:Hid (l1.length=l2.length):=hlen;clear kH jF hlen;by_cases hx:l1[k]=l2[k];{
 have hb:(l1[k] != l2[k])=false:=by simp only [bne_eq_false_iff_eq];exact hx
 have HX:Hid (l1[k]?.getD 0=l2[k]?.getD 0):=by show _=_;simpa [bj,tI] using hx
 clear hx;go_wp2
 go_quiet (fail)
 go_wp2;go_roundw
 case rel=>exact ⟨k+1,ab,by go_num,Au l1 l2 k bj tI HT.out HX.out,below_drewN aR _⟩
 exact dC};{
 have hb:(l1[k] != l2[k])=true:=by simp only [bne_iff_ne];exact hx
 have HF:Hid (decide (l1=l2)=false):=by show _=_;simp only [decide_eq_false_iff_not];intro e;apply hx;simp [e]
 clear hx;go_wp2
 go_quiet (fail)
 go_wp2;go_ret;exact ⟨by rw [HF.out];rfl,below_drewN aR _⟩}}}};{
 have fL:k=l1.length:=ab;have HF:Hid (decide (l1=l2)=true):=by have:=HT.out;rw [fL,List.take_length,hlen,List.take_length] at this;show _=_;simp [this]
 subst fL;clear HT hlen;go_wp2;go_ret;exact ⟨by rw [HF.out];rfl,aR⟩})}
 {
 have gd:((l1.length:Int) != (l2.length:Int))=true:=by simp;omega
 have FN:decide (l1=l2)=false:=by simp only [decide_eq_false_iff_not];intro e;apply hlen;rw [e]
 rw [FN];go_enter func20,ntmps20;go_wp2;go_ret;exact ⟨rfl,Below.refl _ _⟩}
theorem nH.news {w:World} {a:Addr} {c:Nat} (h:nH w (.S (some a) l.length c) l):(l.map (Value.int .u64)).length=l.length*1/\(∀ j u,(l.map (Value.int .u64))[j]?=some u->w.cell? (a.add j)=some u)/\(∀ u∈l.map (Value.int .u64),u.oneCell'=true):=by
 refine ⟨aU,fun j u hu=>?_,fun u hu=>by obtain ⟨n,-,rfl⟩:=List.mem_map.1 hu;rfl⟩;have hj:j<l.length:=by have:=(aN.1 hu).1;simpa using this
 obtain ⟨p,c',e,hd⟩:=h;simp only [Value.slice.injEq] at e;obtain ⟨rfl,-,-⟩:=e;rcases hd with h0 | ⟨b,o,e1,hc⟩;{rw [h0] at hj;simp at hj};{simp only [Option.some.injEq] at e1;subst e1;rw [Addr.add_lit,hc j hj,<-hu];simp [List.getD_eq_getElem?_getD,hj]}
theorem Hd (p:Option Addr) (c n:Nat) (l:List Int) (en:Hid (l.length=n)) (w:World) (h:nH w (.S p n c) l) (hl:n<=1048576) :
  Calls prog 155 #[.S p n c] w fun e w'=>∃ p' c',e=.returned (.S p' n c')/\iK w.heap.size w' (.S p' n c') l/\Bw w w':=by
 have e:=aa en;subst e;obtain ⟨i,hi,mw,iT,jW⟩:=info_parts Tryz.infoU64;go_enter func155,ntmps155;have yz:w.ownsRow w.heap.size 23 1 (.S none 0 0) 0 []:=World.ownsRow_nil w _ _ 1;cases p with
 | none=>
  have e0:l=[]:=by obtain ⟨p,c',e,hd⟩:=h;simp only [Value.slice.injEq] at e;rcases hd with h0 | ⟨b,o,e1,hc⟩;{exact h0};{rw [e1] at e;simp at e}
  subst e0;have Ym:=dX (P:=prog) w w.heap.size 36 36 23 i 1 underlying36 hi _ _ _ c yz;go_wp2_with (at_builtin;refine Lib.wpList_append_run w rfl _ _ 36 36 rfl _ _ rfl rfl _ _ Ym ?_);go_ret;exact ⟨_,_,rfl,iK.nil _ _,Below.refl _ _⟩
 | some ad=>
  obtain ⟨n1,n2,n3⟩:=h.news;obtain ⟨v',w',hr,h1,h2,h3⟩:=rE w w.heap.size 36 i hi mw iT jW _ _ _ yz (ZT.nil w) ad l.length c (l.map (Value.int .u64)) n1 n2 n3 jC ab aA;go_wp2_with (at_builtin;refine Lib.wpList_append_run w rfl _ _ 36 36 rfl _ _ rfl rfl _ _ hr ?_);have ho:iK w.heap.size w' v' l:=⟨by simpa [ua] using h1,h3⟩;obtain ⟨p',c',rfl⟩:=ho.form;have hb:Bw w w':=⟨h2.os,h2.tape,h2.output,h2.size,fun k hk=>h2.block k hk (by simp [Value.ownBlock])⟩;clear h1 h2 h3 hr n1 n2 n3 h;go_wp2;go_ret;exact ⟨_,_,rfl,ho,hb⟩
theorem own:ownKnob Tryz.prog.godebug=none:=by kernel_rfl
theorem laidOut:laidOutB Tryz.prog=true:=by kernel_rfl
theorem uB {H:Type} {enc:TypeId × Value->H} {a:Assume} {C:Checked} {os:Os} {f:FuncId} {fn:Func} {s:ChangeSpec} {conds:List PathCond} {apart fresh handsOn again:Bool} {X:World->Array Value->Prop}
  (hX:∀ (w w':World) (args:Array Value),w.heap=w'.heap->X w args->X w' args)
  (own:ownKnob C.prog.godebug=none) (started:os.Started) (Vg:C.prog.inits.idxOf? f=none) (hfn:C.prog.funcs[f]?=some fn)
  (witness:∃ (w:World) (tape:Tape) (i:Input),w.os=os/\(w.forCall tape i).Shaped C.prog/\i.vars=[]/\Input.okWide C.prog (w.forCall tape i) .any w.heap.size f i ∧
   ((s.pre enc C.prog fn conds apart (w.forCall tape i).memory i.args/\X (w.forCall tape i).memory i.args)/\sizedMet enc C.prog fn (OpenSpec.ofChange s) apart (w.forCall tape i).memory i.args)/\a.holds C.prog (lone (Frame.enter C.prog f i.args .normal) [] (w.forCall tape i)))
  (NL:∀ (W:World) (base:Nat) (args:Array Value) (ds gs:List (DataW H)) (before:List MemPlace),
   (∀ (j:Nat) t v,fn.params[j]?=some t->args[j]?=some v->Value.okWide C.prog W .any base t v) →
   DataW.Whole enc C.prog fn.params.toList s.vars apart W args.toList ds gs before →
   X W args->W.ShapedOpen C.prog →
   Calls C.prog f args W fun e W'=>∃ v,e=.returned v/\s.post enc C.prog fn apart fresh handsOn again W args v W') :
  ReturnsInHanded a C os f .any (fun w args=>(s.pre enc C.prog fn conds apart w args/\X w args)/\sizedMet enc C.prog fn (OpenSpec.ofChange s) apart w args) (s.post enc C.prog fn apart fresh handsOn again):=by
 refine returnsInHanded_of_calls own started Vg witness ?_;intro w tape i _ Z9 _ iJ Q4 aM6;obtain ⟨_,_,_,fn',aN5,_,_,_,_,Fc⟩:=iJ;have e:fn'=fn:=Option.some.inj (aN5.symm.trans hfn);subst e;obtain ⟨⟨⟨ds,gs,before,hw,hc⟩,hx⟩,hz⟩:=Q4;refine (NL (w.forCall tape i) w.heap.size i.args ds gs before Fc (DataW.Whole.of_heap (w':=w.forCall tape i) bU hw) (hX _ _ _ bU hx) Z9).mono fun e W' ⟨v,he,hp⟩=>?_;subst he;exact ChangeSpec.post_blind hp
theorem uo {w:World} (h:w.ShapedOpen Tryz.prog):∃ m,w.cell? ⟨2,0,none⟩=some (.I m):=
 cell_of_shapedOpen_int (t:=3) (zero:=#[.I 0]) h (of_decide_eq_true cW) cW rfl cW cW Tryz.underlying3
theorem qX:Tryz.prog.cellsOf 101=7:=by kernel_rfl
theorem Jz:Tryz.prog.cellsOf 3=1:=by kernel_rfl
theorem Gp:Tryz.prog.cellsOf 4=1:=by kernel_rfl
theorem Ar {H:Type} {enc:TypeId × Value->H} {P:Program} {w:World} {base:Nat} {spare:Nat->Bool} {held:Bool} {t:TypeId} {f0 f1 f2 f3 f4 f5 f6:Field} {fuel:Nat} {x:DataW H × List MemPlace} (ht:P.underlying t=some (.struct #[f0,f1,f2,f3,f4,f5,f6])) (h:DataW.trod enc P w base spare held fuel t cs=some x) :
  ∃ y0 y1 y2 y3 y4 y5 y6 n,x.1=.agg [y0.1,y1.1,y2.1,y3.1,y4.1,y5.1,y6.1]/\cs.length=P.cellsOf t ∧
   DataW.trod enc P w base spare held n f0.type ((cs.drop f0.offset).take (P.cellsOf f0.type))=some y0/\DataW.trod enc P w base spare held n f1.type ((cs.drop f1.offset).take (P.cellsOf f1.type))=some y1 ∧
   DataW.trod enc P w base spare held n f2.type ((cs.drop f2.offset).take (P.cellsOf f2.type))=some y2/\DataW.trod enc P w base spare held n f3.type ((cs.drop f3.offset).take (P.cellsOf f3.type))=some y3 ∧
   DataW.trod enc P w base spare held n f4.type ((cs.drop f4.offset).take (P.cellsOf f4.type))=some y4/\DataW.trod enc P w base spare held n f5.type ((cs.drop f5.offset).take (P.cellsOf f5.type))=some y5 ∧
   DataW.trod enc P w base spare held n f6.type ((cs.drop f6.offset).take (P.cellsOf f6.type))=some y6:=by
 obtain ⟨xs,n,_,rfl,hl,hlen,hf⟩:=DataW.trod_struct ht h
 match xs,hlen with
 | [y0,y1,y2,y3,y4,y5,y6],_=>exact ⟨y0,y1,y2,y3,y4,y5,y6,n,rfl,hl,by simpa using hf 0 f0 rfl,by simpa using hf 1 f1 rfl,by simpa using hf 2 f2 rfl,by simpa using hf 3 f3 rfl,by simpa using hf 4 f4 rfl,by simpa using hf 5 f5 rfl,by simpa using hf 6 f6 rfl⟩
theorem sE {w:World} {n:Nat} {x:DataW Unit × List MemPlace} {se pa sq jo:Bool} (h:DataW.trod (fun _=>()) Tryz.prog w 0 (fun _=>true) false n 101 cs=some x) (hx:x.1=.agg [.lit (.bool se),.lit (.bool pa),.lit (.I lo),.lit (.I hi),.lit (.I vs),.lit (.bool sq),.lit (.bool jo)]) :
  cs=[.bool se,.bool pa,.I lo,.I hi,.I vs,.bool sq,.bool jo]:=by
 obtain ⟨y0,y1,y2,y3,y4,y5,y6,m,e,hl,h0,h1,h2,h3,h4,h5,h6⟩:=Ar Tryz.underlying101 h;rw [qX] at hl;obtain ⟨x0,x1,x2,x3,x4,x5,x6,rfl⟩:∃ x0 x1 x2 x3 x4 x5 x6,cs=[x0,x1,x2,x3,x4,x5,x6]:=by
  match cs,hl with
  | [a,b,c,d,e,f,g],_=>exact ⟨a,b,c,d,e,f,g,rfl⟩
 simp [Gp,Jz] at h0 h1 h2 h3 h4 h5 h6;obtain ⟨b0,e0,f0⟩:=DataW.trod_bool Tryz.underlying4 h0;obtain ⟨b1,e1,f1⟩:=DataW.trod_bool Tryz.underlying4 h1;obtain ⟨b2,e2,f2,_⟩:=DataW.trod_int Tryz.underlying3 h2;obtain ⟨b3,e3,f3,_⟩:=DataW.trod_int Tryz.underlying3 h3;obtain ⟨b4,e4,f4,_⟩:=DataW.trod_int Tryz.underlying3 h4;obtain ⟨b5,e5,f5⟩:=DataW.trod_bool Tryz.underlying4 h5;obtain ⟨b6,e6,f6⟩:=DataW.trod_bool Tryz.underlying4 h6;rw [e,f0,f1,f2,f3,f4,f5,f6] at hx;simp at hx e0 e1 e2 e3 e4 e5 e6;obtain ⟨rfl,rfl,rfl,rfl,rfl,rfl,rfl⟩:=hx;subst e0 e1 e2 e3 e4 e5 e6
 rfl
end Go.Proofs.YtcfcafeciggjeaaGreatDoor
