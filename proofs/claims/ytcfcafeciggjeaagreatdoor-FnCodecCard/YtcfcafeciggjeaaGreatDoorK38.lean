import Derived.Test.YtcfcafeciggjeaaGreatDoorK34
import Derived.Test.YtcfcafeciggjeaaGreatDoorASe
namespace Go.Proofs.YtcfcafeciggjeaaGreatDoor
set_option maxHeartbeats 25600000
set_option linter.all false
set_option maxRecDepth 100000
open Go.ChangeShapes Go.WideShapes Go.ChangeAt Go.RowKit
variable {A:List Lf} {B M N R b k sz:Nat} {Ls:List (List Lf)} {V3:World} {c vs:List Value} {e g t x:Int} {l m xs:List Int} {ns:List aD} {o om:Option (List Int)} {sh:Bool} {ss:List aY} {ty:TypeId} {v:Value}
theorem GJ {α β:Type} (f:α->β) (d:α) (l:List α) (i:Nat):(l.map f).getD i (f d)=f (l.getD i d):=by
 simp only [List.getD,List.getElem?_map];cases l[i]?<;>rfl
theorem Lb (ss:List aY) (id:Int):live (ss.map kS) id=live ss id:=by
 unfold live;rw [List.any_map]
 rfl
theorem Ts (ss:List aY) (ids:List Int):gq (ss.map kS) ids=gq ss ids:=by
 unfold gq
 congr 1
 funext i
 unfold yy;rw [Lb]
theorem WS (ns:List aD) (l:List Int):fE (ns.map aF8) l=(fE ns l).map aF8:=by
 unfold fE;rw [List.find?_map]
 rfl
theorem Qn (ns:List aD) (l:List Int):dw (ns.map aF8) l=dw ns l:=by
 unfold dw;rw [WS];split;{rfl}
 {cases fE ns l<;>rfl}
theorem SI {i:Nat} (h:jy x ss i=true):jy x (ss.map kS) i=true:=by
 unfold jy at *;have e:∀ i,(ss.map kS).getD i (0,0,[])=kS (ss.getD i (0,0,[])):=fun i=>GJ kS (0,0,[]) ss i;rw [e,e];simp only [Bool.and_eq_true,decide_eq_true_eq] at h;obtain ⟨h1,h2,h3,h4,h5,h6⟩:=h;simp only [kS,Bool.and_eq_true];exact ⟨decide_eq_true h1,decide_eq_true h2,h3,rfl,rfl,rfl⟩
theorem S8 (h:iP e g ss ns k=true):iP e g (ss.map kS) (ns.map aF8) k=true:=by
 unfold iP at *;have ee:∀ i,(ns.map aF8).getD i fq=aF8 (ns.getD i fq):=fun i=>GJ aF8 fq ns i;rw [ee,ee];simp only [aF8,Lb,Ts,Qn] at *;simp only [Bool.and_eq_true] at h ⊢;obtain ⟨h1,h2,h3,h4,h5,h6,h7⟩:=h;exact ⟨h1,h2,h3,h4,h5,rfl,h7⟩
theorem Vd (h:jY e g x t ss ns=true):jY e g x 0 (ss.map kS) (ns.map aF8)=true:=by
 unfold jY at *;simp only [Bool.and_eq_true,decide_eq_true_eq,List.all_eq_true,List.mem_range,List.length_map] at *;obtain ⟨⟨h1,h2,h3,h4,h5,h6,h7⟩,h8,h9⟩:=h;exact ⟨⟨h1,h2,h3,ab,ab,h6,h7⟩,fun i hi=>SI (h8 i hi),fun i hi=>S8 (h9 i hi)⟩
theorem Tp {e g x:Nat} (he:e<18446744073709551616) (hg:g<18446744073709551616) (hx:x<18446744073709551616) (h:Oc ss ns) (iJ:jY e g x t ss ns=true):jZ (vN e g x ss ns)=some (((e:Int),(g:Int),(x:Int)),ss.map kS,ns.map aF8):=by
 rw [<-QN];unfold jZ;rw [GF he hg hx h.dur (fun s hs=>by obtain ⟨y,-,rfl⟩:=List.mem_map.1 hs;rfl) (fun nd aV=>by obtain ⟨y,-,rfl⟩:=List.mem_map.1 aV;rfl)];simp only [encR,Vd iJ,if_pos,Int.toNat_natCast,and_self]
theorem ZJ (s:Int) (l:List Int) (s0:0<=s) (s1:s<18446744073709551616):num (sub (mf s l) 4 12)=s/\sub (mf s l) 16 (l.length+16)=l:=by
 have h8:=uF s 8;have h4:=uF l.length 4;obtain ⟨A,eA⟩:=aH (le s 8);obtain ⟨C,eC⟩:=aH (le l.length 4);obtain ⟨E,eE⟩:∃ E,mf s l=EY++A++C++l++E:=⟨_,by rw [mf,sm,mI,eA,eC]⟩;rw [eA] at h8;rw [eC] at h4;have e1:sub (mf s l) 4 12=A:=by
  rw [eE,sub];have:EY++A++C++l++E=(EY++A)++(C++l++E):=by simp
  rw [this,List.take_left' (by simp [lh,h8]),List.drop_left' lh]
 have e2:sub (mf s l) 16 (l.length+16)=l:=by
  rw [eE,sub];have:EY++A++C++l++E=((EY++A++C)++l)++E:=by simp
  rw [this,List.take_left' (by simp [lh,h8,h4];omega),List.drop_left' (by simp [lh,h8,h4])]
 refine ⟨?_,e2⟩;rw [e1,<-eA,am8 s 8 s0];exact Int.emod_eq_of_lt s0 s1
open Go.Proofs.Tryz
def Jg:Option ((Int × Int × Int) × List aY × List aD)->StD
 | none=>al3
 | some r=>⟨r.1.1,r.1.2.1,r.1.2.2,0,r.2.1,r.2.2⟩
def Jh:Option ((Int × Int × Int) × List aY × List aD)->Int
 | none=>13
 | some _=>0
theorem tc (p:Option Addr) (c n:Nat) (l:List Int) (en:Hid (l.length=n)) (w:World) (h:Rd w (.S p n c) l) (hb:Hid (bM l)) (hl:n<=1048576) (om:Option (List Int)) (hs:Hid (lZ n l om)) (a:Int) (ea:Hid (mP n om=a)) (x:Int) (Da:Option (List Int)) (e:Hid (oV om=(x,Da))) (a':Int) (ea':Hid (mP n Da=a')) :
  Calls prog 51 #[.S p n c,.I a] w fun e w'=>e=.returned (.tuple #[.U x,.I a'])/\w'=w:=by
 have e1:=aa ea;have e2:=aa ea';subst e1 e2;exact Aj p c n l en w h hb hl om hs x Da e
theorem ay0 (p:Option Addr) (c n:Nat) (l:List Int) (en:Hid (l.length=n)) (w:World) (h:Rd w (.S p n c) l) (hb:Hid (bM l)) (hl:n<=1048576) (om:Option (List Int)) (hs:Hid (lZ n l om)) (a:Int) (ea:Hid (mP n om=a)) (x:Int) (Da:Option (List Int)) (e:Hid (oB om=(x,Da))) (a':Int) (ea':Hid (mP n Da=a')) :
  Calls prog 50 #[.S p n c,.I a] w fun e w'=>e=.returned (.tuple #[.I x,.I a'])/\w'=w:=by
 have e1:=aa ea;have e2:=aa ea';subst e1 e2;exact nE p c n l en w h hb hl om hs x Da e
theorem ah1 (p:Option Addr) (c n:Nat) (l:List Int) (en:Hid (l.length=n)) (w:World) (h:Rd w (.S p n c) l) (hb:Hid (bM l)) (hl:n<=1048576) (Q6:n<=c) (om:Option (List Int)) (hs:Hid (lZ n l om)) (a:Int) (ea:Hid (mP n om=a)) (x:List Int) (Da:Option (List Int)) (e:Hid (oT om=(x,Da))) (a':Int) (ea':Hid (mP n Da=a')) (N:Nat) (eN:Hid (x.length=N)) :
  Calls prog 52 #[.S p n c,.I a] w fun e w'=>∃ p' c',e=.returned (.tuple #[.S p' N c',.I a'])/\Own w.heap.size w' (.S p' N c') x/\Bw w w':=by
 have e1:=aa ea;have e2:=aa ea';subst e1 e2;exact nt p c n l en w h hb hl Q6 om hs x Da e N eN
theorem Dg {n:Nat} (hs:lZ n l om):(mP n om<0↔om=none)/\mP n om<=n/\-1<=mP n om:=by
 cases om with
 | none=>simp [mP]
 | some m=>
  have:=(hs m rfl).1;simp only [mP];refine ⟨⟨fun h=>ab,fun h=>by cases h⟩,ab,ab⟩
theorem Jj {w u:World} (h:Bw w u) (o:Obj):Bw w (u.alloc o):=h.alloc h.size o
theorem OwnT.app {α:Type} {el:World->α->List Value->List Lf->Prop} {V:World} {xs:List α} {x:α} {l:List Lf} (h:OwnT el ty sz B V v xs Ls)
  (dz:∀ w w' x c l,el w x c l->(∀ a∈l,w'.heap[a.b]?=w.heap[a.b]?)->el w' x c l) (hb:Bw V V3) (hx:el V3 x c l) (hc:c.length=sz) (hA:lx V.heap.size V3 l) (hB:B<=V.heap.size) :
  ∃ row,V3.ownsRow B ty sz v xs.length row/\∀ v' w9,w9.ownsRow B ty sz v' (xs.length+1) (row++c)->V3.grownBy w9 v.ownBlock->(∀ g,v'.ownBlock=some g->v.ownBlock=some g\/V3.heap.size<=g) →
   OwnT el ty sz B w9 v' (xs++[x]) (Ls++[l])/\∃ p c',v'=.S p (xs.length+1) c':=by
 have hl:=h.lt;obtain ⟨cs,g1,g2,g3,g4,g5,g6,g7⟩:=h.below dz hb;refine ⟨cs.flatten,g4,fun v' w9 dW hg mr=>?_⟩;have sn:=OwnT.snoc g1 g2 g3 g5 g6 g7 dz hx hc hA hB (fun a ha=>(hl.2 a ha).2) (fun b hb=>(hl.1 b hb).2) dW hg mr;refine ⟨sn,?_⟩;obtain ⟨p,c',e,-⟩:=sn.read;rw [List.length_append] at e;exact ⟨p,c',e⟩
theorem OwnT.Iq {α:Type} {el:World->α->List Value->List Lf->Prop} {sb:Nat} {w:World} {xs:List α} (h:OwnT el ty sz B w v xs Ls)
  (dz:∀ w w' x c l,el w x c l->(∀ a∈l,w'.heap[a.b]?=w.heap[a.b]?)->el w' x c l) (hs:sb<B) (j:Nat) (u:Value):OwnT el ty sz B (w.setCell ⟨sb,j,none⟩ u) v xs Ls:=
 h.keep (dz _ _) aU (fun b hb=>dF _ _ _ _ (by have:=(h.lt.1 b hb).1;simp;omega)) (fun a ha=>dF _ _ _ _ (by have:=(h.lt.2 a ha).1;simp;omega))
theorem xE.id (w:World) (i:Int):xE w (JA i) [.U i,.I 0,.S none 0 0] []:=⟨none,0,rfl,⟨none,0,rfl,.inl rfl⟩,⟨none,0,[],rfl,rfl,rfl,.inl rfl⟩⟩
theorem lp {w:World} {cs:List Value} {t:TypeId}:∀ j u,cs[j]?=some u->(w.alloc (.cells cs.toArray t)).cell? ⟨w.heap.size,j,none⟩=some u:=fun j u hu=>(aq.alloc w cs.toArray t).1 j u (by simpa using hu)
theorem Gm (h:iY k o=none):∀ j,k<=j->iY j o=none:=by
 intro j hj
 induction j with
 | zero=>rw [show k=0 by omega] at h;exact h
 | succ j ih=>
  by_cases e:k=j+1;{rw [<-e];exact h};{rw [iY,ih ab];rfl}
theorem Ko {Da:Option (List Int)} {nd:aD} (h:iY k o=some (ns,om)) (h2:ni om=some (nd,Da)):iY (k+1) o=some (ns++[nd],Da):=by
 rw [iY,h];simp only [Option.bind_some,h2,Option.map_some]
theorem Ci (h:iY k o=some (ns,om)) (h2:ni om=none):iY (k+1) o=none:=by
 rw [iY,h];simp only [Option.bind_some,h2,Option.map_none]
theorem ua.snoc {w:World} {d:Int} (hk:l.length=k) (h:w.ownsRow B 23 1 v (k+1) (l.map (Value.int .u64)++[.U d])):ua B w v (l++[d]):=by
 unfold ua;rw [List.length_append,List.map_append,hk];exact h
theorem PU.nil (w:World) (M N:Nat):PU w M N (.S none 0 0) [] []:=⟨⟨none,0,rfl,.inl rfl⟩,⟨none,0,[],rfl,rfl,rfl,.inl rfl⟩,lx.nil _ _,fun a ha=>by simp at ha⟩
theorem aq.c6 {w:World} {v0 v1 v2 v3 v4 v5:Value} (h:aq w b (v0::v1::v2::v3::v4::v5::vs)):w.cell? ⟨b,0,none⟩=some v0/\w.cell? ⟨b,1,none⟩=some v1/\w.cell? ⟨b,2,none⟩=some v2/\w.cell? ⟨b,3,none⟩=some v3/\w.cell? ⟨b,4,none⟩=some v4/\w.cell? ⟨b,5,none⟩=some v5/\∀ o,w.frozen? ⟨b,o,none⟩=false:=
 ⟨h.1 0 _ rfl,h.1 1 _ rfl,h.1 2 _ rfl,h.1 3 _ rfl,h.1 4 _ rfl,h.1 5 _ rfl,h.2⟩
theorem Jq {w u:World} {a0 a1 a2 a3 a4 a5:Addr} {v0 v1 v2 v3 v4 v5:Value} (h:Bw w u) (h0:w.heap.size<=a0.block:=by simp) (h1:w.heap.size<=a1.block:=by simp) (h2:w.heap.size<=a2.block:=by simp) (h3:w.heap.size<=a3.block:=by simp) (h4:w.heap.size<=a4.block:=by simp) (h5:w.heap.size<=a5.block:=by simp) :
  Bw w ((((((u.setCell a0 v0).setCell a1 v1).setCell a2 v2).setCell a3 v3).setCell a4 v4).setCell a5 v5):=(((((h.setCell h0 _).setCell h1 _).setCell h2 _).setCell h3 _).setCell h4 _).setCell h5 _
theorem x9 {w u:World} (h:Hid (iZ l=none)) (hb:Bw w u):NQ w.heap.size (.returned (.tuple #[cY 0 0 0 0 (.S none 0 0) (.S none 0 0),.I 13])) u (Jg (iZ l)) (Jh (iZ l))/\Bw w u:=by
 rw [aa h];exact ⟨⟨none,0,none,0,rfl,gr.zero _ _⟩,hb⟩
theorem WB {n:Nat} (en:Hid (l.length=n)) (h:Hid (lZ n l om)):∃ e o1 a,Hid (oV om=(e,o1))/\Hid (mP n o1=a)/\Hid (lZ n l o1):=⟨(oV om).1,(oV om).2,_,ae rfl,ae rfl,ae (mz en h)⟩
theorem oTs {n:Nat} (en:Hid (l.length=n)) (h:Hid (lZ n l om)):∃ e o1 a,Hid (oT om=(e,o1))/\Hid (mP n o1=a)/\Hid (lZ n l o1):=⟨(oT om).1,(oT om).2,_,ae rfl,ae rfl,ae (Eb en h)⟩
theorem ZI (p:Option Addr) (c n:Nat) (l:List Int) (en:Hid (l.length=n)) (w:World) (h:Rd w (.S p n c) l) (hb:Hid (bM l)) (hl:n<=1048576) (Q6:n<=c) :
  Calls prog 23 #[.S p n c] w fun r w'=>NQ w.heap.size r w' (Jg (iZ l)) (Jh (iZ l))/\Bw w w':=by
 have HR:=ae fun (w':World) (hb:Bw w w')=>h.below hb;clear h;have S0:=ae (lZ.start en);have A0:Hid (mP n (some l)=0):=by show _=_;rw [mP,aa en];omega
 obtain ⟨is,his,sz0,sz1,sz2⟩:=info_parts Tryz.infoSes;obtain ⟨io,hio,oz0,oz1,oz2⟩:=info_parts Tryz.infoNod;obtain ⟨iu,hiu,uz0,uz1,uz2⟩:=info_parts Tryz.infoU64;obtain ⟨e,o1,a1,E1,A1,S1⟩:=WB en S0;obtain ⟨g,o2,a2,E2,A2,S2⟩:=WB en S1;obtain ⟨x,o3,a3,E3,A3,S3⟩:=WB en S2;obtain ⟨k,o4,a4,E4,A4,S4⟩:=WB en S3;obtain ⟨W,hW⟩:=ax (w.alloc (.cells #[.U 0,.U 0,.U 0,.I 0,.S none 0 0,.S none 0 0] 27));have bW:=ju hW;have zW:W.heap.size=w.heap.size+1:=by rw [hW];simp
 have RW:Hid (aq W w.heap.size [.U 0,.U 0,.U 0,.I 0,.S none 0 0,.S none 0 0]):=by show aq _ _ _;rw [hW];exact aq.alloc w #[.U 0,.U 0,.U 0,.I 0,.S none 0 0,.S none 0 0] _
 go_enter func23,ntmps23;go_wp2_with fail;rw [<-hW];clear hW;refine (tc p c n l en _ (aa HR _ bW) hb hl _ S0 _ A0 e o1 E1 a1 A1).mono ?_;rintro z9 w1 ⟨rfl,rfl⟩;go_wp2_with fail;refine (tc p c n l en _ (aa HR _ bW) hb hl _ S1 _ A1 g o2 E2 a2 A2).mono ?_;rintro z9 w1 ⟨rfl,rfl⟩;go_wp2_with fail;refine (tc p c n l en _ (aa HR _ bW) hb hl _ S2 _ A2 x o3 E3 a3 A3).mono ?_;rintro z9 w1 ⟨rfl,rfl⟩;go_wp2_with fail;refine (tc p c n l en _ (aa HR _ bW) hb hl _ S3 _ A3 k o4 E4 a4 A4).mono ?_;rintro z9 w1 ⟨rfl,rfl⟩;have hk:0<=k/\k<18446744073709551616:=by have:=my (om:=o3);rw [aa E4] at this;exact this
 have n4:=Dg S4;rw [aa A4] at n4;have N4:=ae n4.1;have m4:-1<=a4/\a4<=n:=⟨n4.2.2,n4.2.1⟩;clear n4;by_cases h4:a4<0;{
 have hn:=N4.1 h4;have hP:iZ l=none:=by
  rw [iZ,CN];simp only [aa E1,aa E2,aa E3,aa E4];rw [if_pos (.inl hn)]
  rfl
 have HD:=ae hP;clear hP;obtain ⟨r0,r1,r2,r3,r4,r5,rf⟩:=RW.c6;have BB:=bW;go_wp2;refine bodyPost_ret (by simp [results,results23,go_sem,r0,r1,r2,r3,r4,r5,zW]) rfl (x9 HD (Jj (Jq BB) _))};{
 by_cases h5:50<k;{
 skip
 have hP:iZ l=none:=by
  rw [iZ,CN];simp only [aa E1,aa E2,aa E3,aa E4];rw [if_pos (.inr h5)]
  rfl
 have HD:=ae hP;clear hP;obtain ⟨r0,r1,r2,r3,r4,r5,rf⟩:=RW.c6;have BB:=bW;go_wp2;refine bodyPost_ret (by simp [results,results23,go_sem,r0,r1,r2,r3,r4,r5,zW]) rfl (x9 HD (Jj (Jq BB) _))};{
 skip
 obtain ⟨K,rfl⟩:∃ K:Nat,k=(K:Int):=⟨k.toNat,ab⟩;have hn4:¬ o4=none:=fun hh=>h4 (N4.2 hh);have HN4:=ae hn4;have wK:=ji K;have cz4:K<=50:=ab;obtain ⟨V,hV⟩:=ax (w1.alloc (.cells #[.U e,.U g,.U x,.I 0,.S none 0 0,.S none 0 0] 27));have P5:=ju hV;obtain ⟨sb,RH⟩:=ax (w.heap.size+1);have CV:Hid (aq V sb [.U e,.U g,.U x,.I 0,.S none 0 0,.S none 0 0]):=by show aq _ _ _;rw [hV,show sb=w1.heap.size by omega];exact aq.alloc w1 #[.U e,.U g,.U x,.I 0,.S none 0 0,.S none 0 0] _
 have zV:V.heap.size=sb+1:=by rw [hV];simp;omega
 have zw1:w1.heap.size=sb:=ab;clear N4 hn4;go_wp2;rw [<-hV,<-RH];have hws:w.heap.size<sb:=ab;have HSB:=ae RH;clear hV RH zW
 go_loopw [5,13] (fun av iv wr=>∃ (j:Nat) (a:Int) (Sv:Value) (Ls:List (List Lf)),j<=K/\av=.I a/\iv=.I j/\Hid (mP n (rL oV j o4).2=a)/\Hid (lZ n l (rL oV j o4).2)/\Hid (aq wr sb [.U e,.U g,.U x,.I 0,Sv,.S none 0 0]/\OwnT xE 35 3 (sb+1) wr Sv ((rL oV j o4).1.map JA) Ls)/\Hid (Bw w1 wr)/\sb<wr.heap.size) (fun _ iv _=>K-(intOf iv).toNat)
 case atStart=>exact ⟨0,_,_,[],Nat.zero_le _,rfl,rfl,A4,S4,⟨CV,OwnT.nil _ _ _ _ _⟩,P5,ab⟩
 case round =>(
 clear CV P5 zV;obtain ⟨j,a,Sv,Ls,hj,rfl,rfl,Ea,Sj,pK,Br,zr⟩:=hrel;by_cases bj:j<K;{
 have da:=aT j K;have wj:IntKind.i64.wrap ((j:Int)+1)=((j+1:Nat):Int):=by rw [IntWalk.i64_in _ ab];omega
 obtain ⟨d,o5,a5,E5,A5,S5⟩:=WB en Sj;have b0:=ah bW Br;go_wp2_with fail;refine (tc p c n l en _ (aa HR _ b0) hb hl _ Sj _ Ea d o5 E5 a5 A5).mono ?_;rintro z9 w2 ⟨rfl,rfl⟩;obtain ⟨hC,hO⟩:=aa pK;have hlen:((rL oV j o4).1.map JA).length=j:=by rw [List.length_map,sF]
 have HC:=ae hC;have HO:=ae hO;have QH:=ae hlen;clear hC hO pK hlen;obtain ⟨v3,JW⟩:=ax (w2.alloc (.cells #[.U d,.I 0,.S none 0 0] 35));have de:=ju JW;have Wl:∀ i u,([.U d,.I 0,.S none 0 0]:List Value)[i]?=some u->v3.cell? ⟨w2.heap.size,i,none⟩=some u:=by rw [JW];exact lp
 have Gy:=ae Wl;have z3:v3.heap.size=w2.heap.size+1:=by rw [JW];simp
 have CO:=ae HO.lt;have C3:=ae (HC.below zr de);have B3:=ae (ah Br de);obtain ⟨row,kT,oe⟩:=HO.app xE.keep de (xE.id v3 d) rfl (lx.nil _ _) ab;rw [aa QH] at kT oe;have AO:=ae oe;have um:=ae kT;have cl:=HC.1 4 _ rfl;clear oe Wl kT;go_wp2_with (at_builtin;rw [<-JW];refine e8 rfl _ _ 24 rfl (sb+1) 35 is _ 3 40 underlying24 his sz0 sz1 sz2 rfl bl Sv j _ rfl (aa um) w2.heap.size 1 1 [.U d,.I 0,.S none 0 0] rfl rfl (aa Gy) (fun u hu=>by simp at hu;rcases hu with rfl | rfl | rfl<;>rfl) jC ab ab ?_);intro v' w9 dW hg tA;have mr:∀ g,v'.ownBlock=some g->Sv.ownBlock=some g\/v3.heap.size<=g:=fun g e=>by have:=tA g e;rw [JW];simpa using this
 rw [<-JW] at hg;obtain ⟨sn,pN,cN,rfl⟩:=aa AO v' w9 dW hg mr;have C9:=C3.grown ab hg (fun e=>by have:=(CO.1 sb e.symm).1;omega);have B9:Hid (Bw w1 w9):=B3.grown hg B3.size (fun b e=>by have:=(CO.1 b e).1;omega);have z9:=hg.size;have CT:=ae (C9.dI 4 aU (.S pN (j+1) cN));have OT:=ae (sn.Iq xE.keep (sb:=sb) ab 4 (.S pN (j+1) cN));have BT:Hid (Bw w1 (w9.setCell ⟨sb,4,none⟩ (.S pN (j+1) cN))):=B9.setCell dx _;have zT:sb<(w9.setCell ⟨sb,4,none⟩ (.S pN (j+1) cN)).heap.size:=by simp;omega
 have cc:=C9.1 4 _ rfl;have cf:=C9.2;have EL:Hid ((rL oV j o4).1.map JA++[JA d]=(rL oV (j+1) o4).1.map JA/\(rL oV (j+1) o4).2=o5):=by show _/\_;rw [rL,aa E5,List.map_append];exact ⟨rfl,rfl⟩
 clear dW hg mr tA sn C9 JW de cl;go_wp2;go_roundw
 case rel=>exact ⟨j+1,a5,_,_,ab,rfl,by go_num,(by rw [EL.2];exact A5),(by rw [EL.2];exact S5),(by rw [<-EL.1];exact ⟨aa CT,aa OT⟩),BT,zT⟩
 exact dC};{
 have da:=dy j K
 skip
 have ekK:K=j:=ab;subst ekK;obtain ⟨hC,hO⟩:=aa pK;obtain ⟨w3,ew3⟩:=ax wr;subst ew3;obtain ⟨pS,cS,evS,-⟩:=id hO.read;rw [List.length_map,sF] at evS;subst evS;have C3:=ae hC;have O3:=ae hO;have b3:=ah bW Br;have R3:=ae (RW.below ab Br);have HSL:Hid (((rL oV K o4).1.map JA).length=K):=by show _=_;rw [List.length_map,sF]
 clear hC hO pK hj bj da;obtain ⟨q,o7,a7,E7,A7,S7⟩:=WB en Sj;go_wp2_with fail;refine (tc p c n l en _ (aa HR _ b3) hb hl _ Sj _ Ea q o7 E7 a7 A7).mono ?_;rintro z9 w4 ⟨rfl,rfl⟩;have hq:0<=q/\q<18446744073709551616:=by have:=my (om:=(rL oV K o4).2);rw [aa E7] at this;exact this
 have n7:=Dg S7;rw [aa A7] at n7;have N7:=ae n7.1;have m7:-1<=a7/\a7<=n:=⟨n7.2.2,n7.2.1⟩;clear n7;by_cases h7:a7<0;{
 have hn:=N7.1 h7;have hP:iZ l=none:=by
  rw [iZ,CN];simp only [aa E1,aa E2,aa E3,aa E4];rw [if_neg (by rw [not_or];exact ⟨aa HN4,ab⟩)];simp only [Int.toNat_natCast,aa E7];rw [if_pos (.inl hn)]
  rfl
 have HD:=ae hP;clear hP;obtain ⟨r0,r1,r2,r3,r4,r5,rf⟩:=R3.c6;have BB:=b3;go_wp2;refine bodyPost_ret (by simp [results,results23,go_sem,r0,r1,r2,r3,r4,r5]) rfl (x9 HD (Jq BB))};{
 by_cases h8:200<q;{
 skip
 have hP:iZ l=none:=by
  rw [iZ,CN];simp only [aa E1,aa E2,aa E3,aa E4];rw [if_neg (by rw [not_or];exact ⟨aa HN4,ab⟩)];simp only [Int.toNat_natCast,aa E7];rw [if_pos (.inr h8)]
  rfl
 have HD:=ae hP;clear hP;obtain ⟨r0,r1,r2,r3,r4,r5,rf⟩:=R3.c6;have BB:=b3;go_wp2;refine bodyPost_ret (by simp [results,results23,go_sem,r0,r1,r2,r3,r4,r5]) rfl (x9 HD (Jq BB))};{
 skip
 obtain ⟨Q,rfl⟩:∃ K:Nat,q=(K:Int):=⟨q.toNat,ab⟩;have hn7:¬ o7=none:=fun hh=>h7 (N7.2 hh);have HN7:=ae hn7;have wQ:=ji Q;have hQ:Q<=200:=ab;have SPO:Hid (CN l=(iY Q o7).map fun r=>((e,g,x),(rL oV K o4).1.map JA,r.1,r.2)):=by show _=_;rw [CN];simp only [aa E1,aa E2,aa E3,aa E4];rw [if_neg (by rw [not_or];exact ⟨aa HN4,ab⟩)];simp only [Int.toNat_natCast,aa E7];rw [if_neg (by rw [not_or];exact ⟨hn7,ab⟩)]
 clear N7 hn7;go_wp2
 go_loopw [5,15] (fun av iv wr=>∃ (j:Nat) (a:Int) (Nv:Value) (Ls:List (List Lf)) (ns:List aD) (om:Option (List Int)),j<=Q/\av=.I a/\iv=.I j/\Hid (iY j o7=some (ns,om))/\Hid (mP n om=a)/\Hid (lZ n l om)/\Hid (aq wr sb [.U e,.U g,.U x,.I 0,.S pS K cS,Nv]/\OwnT mT 38 8 w4.heap.size wr Nv ns Ls)/\Hid (w4.grownBy wr (some sb))) (fun _ iv _=>Q-(intOf iv).toNat)
 case atStart=>exact ⟨0,_,_,[],[],o7,Nat.zero_le _,rfl,rfl,cw,A7,S7,⟨C3,OwnT.nil _ _ _ _ _⟩,qR _ _⟩
 case round =>(
 obtain ⟨j,a,Nv,Ls,ns,om,hj,rfl,rfl,Em,Ea,Sm,pK,yb⟩:=hrel;have b5:=qY b3 yb ab;have zg:=yb.size;by_cases bj:j<Q;{
 have da:=aT j Q;have wj:IntKind.i64.wrap ((j:Int)+1)=((j+1:Nat):Int):=by rw [IntWalk.i64_in _ ab];omega
 obtain ⟨hC,hO⟩:=aa pK;have HC:=ae hC;have HO:=ae hO;have hlen:=(zF en hb hl j S7 Em).2.2;have QH:=ae hlen;clear hC hO pK hlen;obtain ⟨PP,q1,c1,F1,G1,T1⟩:=oTs en Sm;obtain ⟨VV,q2,c2,F2,G2,T2⟩:=oTs en T1;obtain ⟨ow,q3,c3,F3,G3,T3⟩:=WB en T2;obtain ⟨⟨mo,q4⟩,F4⟩:∃ y,Hid (oB q3=y):=⟨_,cw⟩;obtain ⟨c4,G4⟩:∃ a,Hid (mP n q4=a):=⟨_,cw⟩;have T4:Hid (lZ n l q4):=by have:=An (aa en) (aa T3);rw [aa F4] at this;exact this
 obtain ⟨hh,q5,c5,F5,G5,T5⟩:=WB en T4;obtain ⟨NP,eNP⟩:∃ k,Hid (PP.length=k):=⟨_,cw⟩;obtain ⟨NV,eNV⟩:∃ k,Hid (VV.length=k):=⟨_,cw⟩;go_wp2_with fail;refine (ah1 p c n l en _ (aa HR _ b5) hb hl Q6 _ Sm _ Ea PP q1 F1 c1 G1 NP eNP).mono ?_;rintro z9 y1 ⟨pP,cP,rfl,oP,bq⟩;have b6:=ah b5 bq;have z1:=bq.size;go_wp2_with fail;refine (ah1 p c n l en _ (aa HR _ b6) hb hl Q6 _ T1 _ G1 VV q2 F2 c2 G2 NV eNV).mono ?_;rintro z9 y2 ⟨pV,cV,rfl,oV',cX⟩;have b7:=ah b6 cX;have z2:=cX.size;obtain ⟨lP,fP⟩:=Own.pb oP;obtain ⟨lV,fV⟩:=Own.pb oV';have FP:=ae (fP.below cX);have FV:=ae fV;have BX:=ae (ah bq cX);have C7:=ae (HC.below ab BX);have R7:=ae ((R3.grown ab (aa yb) dx).below ab (aa BX));clear oP oV' fP fV bq cX;go_wp2_with fail;refine (tc p c n l en _ (aa HR _ b7) hb hl _ T2 _ G2 ow q3 F3 c3 G3).mono ?_;rintro z9 y3 ⟨rfl,rfl⟩;go_wp2_with fail;refine (ay0 p c n l en _ (aa HR _ b7) hb hl _ T3 _ G3 mo q4 F4 c4 G4).mono ?_;rintro z9 y4 ⟨rfl,rfl⟩;go_wp2_with fail;refine (tc p c n l en _ (aa HR _ b7) hb hl _ T4 _ G4 hh q5 F5 c5 G5).mono ?_;rintro z9 X ⟨rfl,rfl⟩;have hhr:0<=hh/\hh<18446744073709551616:=by have:=my (om:=q4);rw [aa F5] at this;exact this
 have n5:=Dg T5;rw [aa G5] at n5;have N5:=ae n5.1;have m5:-1<=c5/\c5<=n:=⟨n5.2.2,n5.2.1⟩;clear n5;by_cases h9:c5<0;{
 have hn:=N5.1 h9;have R8:=ae (R7.below ab (aJ.alloc aA (.cells #[.S pP NP cP,.S pV NV cV,.U ow,.I mo,.S none 0 0,.U 0,.U 0,.S none 0 0] 38)));have hP:iZ l=none:=by
  rw [iZ,aa SPO,Gm (Ci (aa Em) (by rw [ni];simp only [aa F1,aa F2,aa F3,aa F4,aa F5];rw [if_pos (.inl hn)])) Q ab]
  rfl
 have HD:=ae hP;clear hP;obtain ⟨r0,r1,r2,r3,r4,r5,rf⟩:=R8.c6;have BB:=(Jj b7 (.cells #[.S pP NP cP,.S pV NV cV,.U ow,.I mo,.S none 0 0,.U 0,.U 0,.S none 0 0] 38));go_wp2;refine bodyPost_ret (by simp [results,results23,go_sem,r0,r1,r2,r3,r4,r5]) rfl (x9 HD (Jq BB))};{
 by_cases h10:50<hh;{
 have R8:=ae (R7.below ab (aJ.alloc aA (.cells #[.S pP NP cP,.S pV NV cV,.U ow,.I mo,.S none 0 0,.U 0,.U 0,.S none 0 0] 38)));have hP:iZ l=none:=by
  rw [iZ,aa SPO,Gm (Ci (aa Em) (by rw [ni];simp only [aa F1,aa F2,aa F3,aa F4,aa F5];rw [if_pos (.inr h10)])) Q ab]
  rfl
 have HD:=ae hP;clear hP;obtain ⟨r0,r1,r2,r3,r4,r5,rf⟩:=R8.c6;have BB:=(Jj b7 (.cells #[.S pP NP cP,.S pV NV cV,.U ow,.I mo,.S none 0 0,.U 0,.U 0,.S none 0 0] 38));go_wp2;refine bodyPost_ret (by simp [results,results23,go_sem,r0,r1,r2,r3,r4,r5]) rfl (x9 HD (Jq BB))};{
 skip
 obtain ⟨H,rfl⟩:∃ K:Nat,hh=(K:Int):=⟨hh.toNat,ab⟩;have hn5:¬ q5=none:=fun hh=>h9 (N5.2 hh);have HN5:=ae hn5;have wH:=ji H;have hH:H<=50:=ab;obtain ⟨nb,Zn⟩:=ax X.heap.size;obtain ⟨V5,hV5⟩:=ax (X.alloc (.cells #[.S pP NP cP,.S pV NV cV,.U ow,.I mo,.S none 0 0,.U 0,.U 0,.S none 0 0] 38));have P5:=ju hV5;have CV:Hid (aq V5 nb [.S pP NP cP,.S pV NV cV,.U ow,.I mo,.S none 0 0,.U 0,.U 0,.S none 0 0]):=by show aq _ _ _;rw [hV5,Zn];exact aq.alloc X #[.S pP NP cP,.S pV NV cV,.U ow,.I mo,.S none 0 0,.U 0,.U 0,.S none 0 0] _
 have zV:V5.heap.size=nb+1:=by rw [hV5];simp;omega
 have ZX:Hid (X.heap.size=nb):=Zn.symm;have hsn:sb<nb:=ab;have HNB:=ae Zn;clear N5 hn5 Zn;go_wp2;rw [<-hV5,<-aa HNB];clear hV5
 go_loopw [5,27] (fun av kv wr=>∃ (i:Nat) (a:Int) (Hv:Value),i<=H/\av=.I a/\kv=.I i/\Hid (mP n (rL oV i q5).2=a)/\Hid (lZ n l (rL oV i q5).2)/\Hid (aq wr nb [.S pP NP cP,.S pV NV cV,.U ow,.I mo,Hv,.U 0,.U 0,.S none 0 0]/\ua (nb+1) wr Hv (rL oV i q5).1)/\Hid (Bw X wr)/\nb<wr.heap.size) (fun _ kv _=>H-(intOf kv).toNat)
 case atStart=>exact ⟨0,_,_,Nat.zero_le _,rfl,rfl,G5,T5,⟨CV,World.ownsRow_nil _ _ _ _⟩,P5,ab⟩
 case round =>(
 clear CV P5 zV;obtain ⟨i,a',Hv,hi,rfl,rfl,Ei,Si,pK,Bi,zi⟩:=hrel;have b8:=ah b7 Bi;by_cases hlh:i<H;{
 have az4:=aT i H;have wi:IntKind.i64.wrap ((i:Int)+1)=((i+1:Nat):Int):=by rw [IntWalk.i64_in _ ab];omega
 obtain ⟨d,q6,c6,F6,G6,T6⟩:=WB en Si;go_wp2_with fail;refine (tc p c n l en _ (aa HR _ b8) hb hl _ Si _ Ei d q6 F6 c6 G6).mono ?_;rintro z9 w2 ⟨rfl,rfl⟩;obtain ⟨hC,hO⟩:=aa pK;obtain ⟨v3,JW⟩:=ax (w2.alloc (.cells #[.U d] 23));have de:=ju JW;have Wl:∀ i u,([.U d]:List Value)[i]?=some u->v3.cell? ⟨w2.heap.size,i,none⟩=some u:=by rw [JW];exact lp
 have Gy:=ae Wl;have z3:v3.heap.size=w2.heap.size+1:=by rw [JW];simp
 have CO:Hid (∀ b,Hv.ownBlock=some b->nb+1<=b/\b<w2.heap.size):=fun b e=>hO.lt b e;have C3:=ae (hC.below zi de);have B3:=ae (ah Bi de);have um:Hid (v3.ownsRow (nb+1) 23 1 Hv i ((rL oV i q5).1.map (Value.int .u64))):=by have:=hO.below de;unfold ua at this;rw [sF] at this;exact this
 have cl:=hC.1 4 _ rfl;clear Wl hC hO pK;go_wp2_with (at_builtin;rw [<-JW];refine e8 rfl _ _ 36 rfl (nb+1) 23 iu _ 1 8 underlying36 hiu uz0 uz1 uz2 rfl bl Hv i _ rfl (aa um) w2.heap.size 1 1 [.U d] rfl rfl (aa Gy) (fun u hu=>by simp at hu;subst hu;rfl) jC ab ab ?_);intro v' w9 dW hg mr;rw [<-JW] at hg;have sn:=ua.snoc (sF oV i q5) dW;obtain ⟨pN,cN,e9⟩:=sn.form;rw [List.length_append,sF] at e9;subst e9;have C9:=C3.grown ab hg (fun e=>by have:=(aa CO nb e.symm).1;omega);have B9:Hid (Bw X w9):=B3.grown hg B3.size (fun b e=>by have:=(aa CO b e).1;have:=aa ZX;omega);have z9:=hg.size;have CT:=ae (C9.dI 4 aU (.S pN (i+1) cN));have OT:Hid (ua (nb+1) (w9.setCell ⟨nb,4,none⟩ (.S pN (i+1) cN)) (.S pN (i+1) cN) ((rL oV i q5).1++[d])):=World.ownsRow.kept sn (aE w9 ⟨nb,4,none⟩ _) (.inr fun e=>by have:=(sn.lt nb e).1;omega);have BT:Hid (Bw X (w9.setCell ⟨nb,4,none⟩ (.S pN (i+1) cN))):=B9.setCell (by have:=aa ZX;simp;omega) _;have zT:nb<(w9.setCell ⟨nb,4,none⟩ (.S pN (i+1) cN)).heap.size:=by simp;omega
 have cc:=C9.1 4 _ rfl;have cf:=C9.2;have EL:Hid ((rL oV i q5).1++[d]=(rL oV (i+1) q5).1/\(rL oV (i+1) q5).2=q6):=by show _/\_;rw [rL,aa F6];exact ⟨rfl,rfl⟩
 clear dW hg mr sn C9 JW de cl;go_wp2;go_roundw
 case rel=>exact ⟨i+1,c6,_,ab,rfl,by go_num,(by rw [EL.2];exact G6),(by rw [EL.2];exact T6),(by rw [<-EL.1];exact ⟨aa CT,aa OT⟩),BT,zT⟩
 exact dC};{
 have az4:=dy i H
 skip
 have eiH:H=i:=ab;subst eiH;obtain ⟨hC,hO⟩:=aa pK;obtain ⟨pH,cH,e9⟩:=hO.form;rw [sF] at e9;subst e9;obtain ⟨HL,eHL⟩:∃ L,Hid ((rL oV H q5).1=L):=⟨_,cw⟩;rw [aa eHL] at hO;have lHL:Hid (HL.length=H):=by show _=_;rw [<-aa eHL];exact sF _ _ _
 have HC9:=ae hC;have HO9:=ae hO;clear hC hO pK hi hlh az4;obtain ⟨ep,q7,c7,F7,G7,T7⟩:=WB en Si;obtain ⟨ge,q8,c8,F8,G8,T8⟩:=WB en T7;go_wp2_with fail;refine (tc p c n l en _ (aa HR _ b8) hb hl _ Si _ Ei ep q7 F7 c7 G7).mono ?_;rintro z9 y5 ⟨rfl,rfl⟩;go_wp2_with fail;refine (tc p c n l en _ (aa HR _ b8) hb hl _ T7 _ G7 ge q8 F8 c8 G8).mono ?_;rintro z9 y6 ⟨rfl,rfl⟩;obtain ⟨nd,aE0⟩:∃ nd:aD,Hid (nd=⟨PP,VV,ow,mo,HL,ep,ge,[]⟩):=⟨_,cw⟩;have ESP:Hid (iY (j+1) o7=some (ns++[nd],q8)):=Ko Em (by rw [ni];simp only [aa F1,aa F2,aa F3,aa F4,aa F5];rw [if_neg (by rw [not_or];exact ⟨aa HN5,ab⟩)];simp only [Int.toNat_natCast,aa eHL,aa F7,aa F8];rw [aa aE0])
 have CA:=HC9.dI 5 aU (.U ep);have CB:=CA.dI 6 aU (.U ge);obtain ⟨Z,hZ⟩:=ax ((y6.setCell ⟨nb,5,none⟩ (.U ep)).setCell ⟨nb,6,none⟩ (.U ge));rw [<-hZ] at CB;have BZ:Bw X Z:=by rw [hZ];exact (Bi.setCell (by have:=aa ZX;simp;omega) _).setCell (by have:=aa ZX;simp;omega) _
 have OZ:ua (nb+1) Z (.S pH H cH) HL:=by rw [hZ];have o1:=World.ownsRow.kept HO9 (aE y6 ⟨nb,5,none⟩ (.U ep)) (.inr fun e=>by have:=(HO9.lt nb e).1;omega);exact World.ownsRow.kept o1 (aE _ ⟨nb,6,none⟩ (.U ge)) (.inr fun e=>by have:=(o1.lt nb e).1;omega)
 have zZ:nb<Z.heap.size:=by rw [hZ];simpa using zi
 have CZs:=C7.below (by have:=aa ZX;omega) BZ;obtain ⟨v3,JW⟩:=ax (Z.alloc (.cells #[.S pP NP cP,.S pV NV cV,.U ow,.I mo,.S pH H cH,.U ep,.U ge,.S none 0 0] 38));have hbz:=ju JW;have Wl:∀ i u,([.S pP NP cP,.S pV NV cV,.U ow,.I mo,.S pH H cH,.U ep,.U ge,.S none 0 0]:List Value)[i]?=some u->v3.cell? ⟨Z.heap.size,i,none⟩=some u:=by rw [JW];exact lp
 have ezz:Z.heap.size=y6.heap.size:=by rw [hZ];simp
 rw [ezz] at Wl;have Gy:=ae Wl;have z3:v3.heap.size=Z.heap.size+1:=by rw [JW];simp
 have BX3:=ah BZ hbz;have Bw3:=ah BX BX3;obtain ⟨lH,fH⟩:=ua.pu (OZ.below hbz);have zXn:=aa ZX;have ELN:Hid (mT v3 nd [.S pP NP cP,.S pV NV cV,.U ow,.I mo,.S pH H cH,.U ep,.U ge,.S none 0 0] (lP++(lV++(lH++[])))/\lx wr.heap.size v3 (lP++(lV++(lH++[])))):=by have k0:=FP.below BX3;have k1:=FV.below BX3;have k4:=fH;rw [<-aa eNP] at k0;rw [<-aa eNV] at k1;rw [<-aa lHL] at k4;have:=mT.mk4 (nd:=⟨PP,VV,ow,mo,HL,ep,ge,[]⟩) (B:=wr.heap.size) k0 k1 k4 (PU.nil v3 v3.heap.size v3.heap.size) ab ab ab ab ab ab ab ab ab ab;dsimp only at this;rw [aa eNP,aa eNV,aa lHL] at this;rw [aa aE0];exact this
 obtain ⟨row,kT,oe⟩:=HO.app mT.keep Bw3 ELN.1 rfl ELN.2 ab;have CO:=ae HO.lt;rw [aa QH] at kT oe;have AO:=ae oe;have um:=ae kT;have C3':=ae (CZs.below ab hbz);have nsb:¬ sb=nb:=ab;have nbs:¬ nb=sb:=ab;have d5:=HC9.1 5 _ rfl;have d6:=HC9.1 6 _ rfl;have d0:=CB.1 0 _ rfl;have d1:=CB.1 1 _ rfl;have d2:=CB.1 2 _ rfl;have d3:=CB.1 3 _ rfl;have d4:=CB.1 4 _ rfl;have d5':=CB.1 5 _ rfl;have d6':=CB.1 6 _ rfl;have d7:=CB.1 7 _ rfl;have df:=HC9.2;have s5:=CZs.1 5 _ rfl;rw [hZ] at d0 d1 d2 d3 d4 d5' d6' d7 s5;have HZ:=ae hZ;have EZZ:=ae ezz;have BW3:=ae Bw3;have HBZ:=ae hbz;clear ezz oe Wl kT CA CB BZ OZ CZs fH hZ BX3 Bw3 hbz;go_wp2_with (at_builtin;rw [<-aa HZ,<-JW];refine e8 rfl _ _ 25 rfl w4.heap.size 38 io _ 8 128 underlying25 hio oz0 oz1 oz2 rfl bl Nv j _ rfl (aa um) y6.heap.size 1 1 [.S pP NP cP,.S pV NV cV,.U ow,.I mo,.S pH H cH,.U ep,.U ge,.S none 0 0] rfl rfl (aa Gy) (fun u hu=>by simp at hu;rcases hu with rfl | rfl | rfl | rfl | rfl | rfl | rfl | rfl<;>rfl) jC ab ab ?_);intro v' w9 dW hg tA;have ezz:=aa EZZ;have mr:∀ g,v'.ownBlock=some g->Nv.ownBlock=some g\/v3.heap.size<=g:=fun g e=>by have:=tA g e;rw [JW];simpa using this
 rw [<-JW] at hg;obtain ⟨sn,pN,cN,rfl⟩:=aa AO v' w9 dW hg mr;have C9:=C3'.grown ab hg (fun e=>by have:=(CO.1 sb e.symm).1;omega);have G9:w4.grownBy w9 (some sb):=jt (jt yb (az BW3 none) (fun b e=>by cases e)) hg (fun b e=>.inl (CO.1 b e).1);have CT:=ae (C9.dI 5 aU (.S pN (j+1) cN));have OT:=ae (sn.Iq mT.keep (sb:=sb) ab 5 (.S pN (j+1) cN));have GT:Hid (w4.grownBy (w9.setCell ⟨sb,5,none⟩ (.S pN (j+1) cN)) (some sb)):=gK G9 (aE w9 ⟨sb,5,none⟩ _);have cc:=C9.1 5 _ rfl;have cf:=C9.2;clear dW hg mr tA sn C9 G9 JW d0 d1 d2 d3 d4 d5 d6 d5' d6' d7 s5 df;go_wp2;go_roundw
 case rel=>exact ⟨j+1,c8,_,_,_,q8,ab,rfl,by go_num,ESP,G8,T8,⟨CT,OT⟩,GT⟩
 case measure=>simp [intOf];omega})}}}
 {
 have da:=dy j Q
 skip
 have ejQ:Q=j:=ab;subst ejQ;obtain ⟨hC,hO⟩:=aa pK;obtain ⟨v1',v2',hlen⟩:=zF en hb hl Q S7 Em;obtain ⟨pN,cN,Ua,-⟩:=id hO.read;rw [hlen] at Ua;subst Ua;obtain ⟨sl,TV⟩:∃ L,Hid ((rL oV K o4).1.map JA=L):=⟨_,cw⟩;have hSL:Hid (∀ s∈sl,s.2=(0,[])):=fun s hs=>by
  rw [<-aa TV] at hs;obtain ⟨i,-,rfl⟩:=List.mem_map.1 hs
  rfl
 have Zh:=ae v1';have ES:Hid (CN l=some ((e,g,x),sl,ns,om)):=by
  show _=_;rw [aa SPO,aa Em,aa TV]
  rfl
 have xC:Hid (sl.length=K):=by show _=_;rw [<-aa TV];exact aa HSL
 have J9:Hid (ns.length=Q):=hlen;obtain ⟨L3,OS,sj,hm2⟩:∃ L3,OwnT xE 35 3 (sb+1) wr (.S pS K cS) sl L3/\(∀ a∈L3.flatten,a.b<w4.heap.size)/\∀ b,(Value.slice pS K cS).ownBlock=some b->b<w4.heap.size:=by refine ⟨_,?_,fun a' ha=>(O3.lt.2 a' ha).2,fun b cR=>(O3.lt.1 b cR).2⟩;rw [<-aa TV];exact O3.keep (xE.keep _ _) zg (fun b cR=>yb.block b (O3.lt.1 b cR).2 (by have:=(O3.lt.1 b cR).1;simp;omega)) (fun a' ha=>yb.block _ (O3.lt.2 a' ha).2 (by have:=(O3.lt.2 a' ha).1;simp;omega))
 obtain ⟨rs,A1',lvs,aps,hi1⟩:ic wr (.S pS K cS) sl/\∃ A,LvS wr (.S pS K cS) sl A/\lx (sb+1) wr A/\∀ a∈A,a.b<w4.heap.size:=by obtain ⟨A,q1,q2,q3⟩:=OS.sM (M:=w4.heap.size) sj hm2;exact ⟨OS.se.1,A,q1,q2,q3⟩
 obtain ⟨rn,A2',lvn,apn⟩:=hO.no;have FF:Hid (gr (sb+1) wr pS K cS pN Q cN sl ns):=⟨A1',A2',rs,rn,lvs,lvn,aps.app (apn.mono ab) ab hi1⟩;have RR:=ae (ag rs rn);have C9:=ae hC;have R9:=ae (R3.grown ab (aa yb) dx);have na:=Dg Sm;rw [aa Ea] at na;have NA:=ae na.1;have ma:-1<=a/\a<=n:=⟨na.2.2,na.2.1⟩;clear na hC hO pK OS sj hm2 lvs aps hi1 lvn apn rs rn v1' v2' hlen hj bj da;by_cases Yx:a<0;{
 have hn:=NA.1 Yx;have hP:iZ l=none:=by rw [iZ,aa ES,Option.bind_some,if_neg (fun hh=>hh.1 hn)]
 have HD:=ae hP;clear hP;obtain ⟨r0,r1,r2,r3,r4,r5,rf⟩:=R9.c6;have BB:=b5;go_wp2;refine bodyPost_ret (by simp [results,results23,go_sem,r0,r1,r2,r3,r4,r5]) rfl (x9 HD (Jq BB))};{
 skip
 have jS:¬ om=none:=fun hh=>Yx (NA.2 hh);have HNO:=ae jS;clear jS;obtain ⟨B,eB⟩:∃ B,Hid (jY e g x 0 sl ns=B):=⟨_,cw⟩;have nO:Hid (∀ s∈sl,s.2.2.length<=1048576/\∀ e∈s.2.2,bM e.2/\e.2.length<=1048576):=fun s hs=>by have:=aa hSL s hs;rw [this];exact ⟨Nat.zero_le _,fun e he=>by simp at he⟩
 have fI:Hid (∀ nd∈ns,bM nd.path/\nd.path.length<=1048576/\nd.value.length<=1048576/\nd.holders.length<=1048576/\nd.watchers.length<=1048576):=fun nd aV=>by have:=aa Zh nd aV;exact ⟨this.by0,this.l0,this.l1,this.l4,by rw [this.l7];exact Nat.zero_le _⟩
 obtain ⟨k0,k1,k2,k3,k4,k5,-⟩:=C9.c6;go_wp2_with fail;refine (Az e g x 0 pS pN cS K cN Q sl ns xC J9 _ RR.1.rd RR.2 ab ab nO fI B eB).mono ?_;rintro z9 u1 ⟨rfl,ur⟩;have b10:=ah b5 ur;have R10:=ae (R9.below ab ur);have C10:=ae (C9.below ab ur);have UF:=ae (FF.below ur);have aK9:=ae (ag (RR.1.below ur) (RR.2.below ur));have zu1:=ur.size;clear ur k0 k1 k2 k3 k4 k5;cases B with
 | false=>
  have hP:iZ l=none:=by rw [iZ,aa ES,Option.bind_some,if_neg (fun hh=>by have:=hh.2.1;simp only at this;rw [aa eB] at this;cases this)]
  have HD:=ae hP;clear hP;obtain ⟨r0,r1,r2,r3,r4,r5,rf⟩:=R10.c6;have BB:=b10;go_wp2;refine bodyPost_ret (by simp [results,results23,go_sem,r0,r1,r2,r3,r4,r5]) rfl (x9 HD (Jq BB))
 | true=>
  have re:0<=e/\e<18446744073709551616:=by have:=my (om:=some l);rw [aa E1] at this;exact this
  have rg:0<=g/\g<18446744073709551616:=by have:=my (om:=o1);rw [aa E2] at this;exact this
  have rx:0<=x/\x<18446744073709551616:=by have:=my (om:=o2);rw [aa E3] at this;exact this
  obtain ⟨e',rfl⟩:∃ v:Nat,e=(v:Int):=⟨e.toNat,ab⟩;obtain ⟨g',rfl⟩:∃ v:Nat,g=(v:Int):=⟨g.toNat,ab⟩;obtain ⟨x',rfl⟩:∃ v:Nat,x=(v:Int):=⟨x.toNat,ab⟩;have HSM:=ae (DT eB Zh);obtain ⟨M,eM⟩:∃ M,Hid ((vN e' g' x' sl ns).length=M):=⟨_,cw⟩;obtain ⟨k0,k1,k2,k3,k4,k5,-⟩:=C10.c6;go_wp2_with fail;refine (Gz e' g' x' 0 ab ab ab pS pN cS K cN Q sl ns xC J9 _ aK9.1.rd aK9.2 (ae HSM.w) M eM).mono ?_;rintro z9 u2 ⟨pE,cE,rfl,oE,Tu⟩;have b11:=ah b10 Tu;have R11:=ae (R10.below ab Tu);have C11:=ae (C10.below ab Tu);have F11:=ae (UF.below Tu);have zu2:=Tu.size;have RE:=ae oE.rd;clear Tu oE k0 k1 k2 k3 k4 k5;go_wp2_with fail;refine (mL pE p cE c M n (vN e' g' x' sl ns) l eM en _ RE (aa HR _ b11) (QV ab ab ab HSM Zh) hb).mono ?_;rintro z9 u3 ⟨rfl,hu3⟩;have b12:=ah b11 hu3;have R12:=ae (R11.below ab hu3);have C12:=ae (C11.below ab hu3);have F12:=ae (F11.below hu3);have zu3:=hu3.size;clear hu3;by_cases XD:vN e' g' x' sl ns=l;{
 have hd:decide (vN e' g' x' sl ns=l)=true:=by simpa using XD
 have hP:iZ l=some (((e':Int),(g':Int),(x':Int)),sl,ns):=by rw [iZ,aa ES,Option.bind_some,if_pos ⟨aa HNO,aa eB,by simpa using XD⟩]
 have HD:Hid (Jg (iZ l)=⟨e',g',x',0,sl,ns⟩/\Jh (iZ l)=0):=by rw [hP];exact ⟨rfl,rfl⟩
 rw [hd];obtain ⟨r0,r1,r2,r3,r4,r5,rf⟩:=R12.c6;obtain ⟨k0,k1,k2,k3,k4,k5,-⟩:=C12.c6;have q1:¬ w.heap.size=sb:=ab;have q2:¬ sb=w.heap.size:=ab;clear hP hd XD;go_wp2;obtain ⟨Z,hZ⟩:=ax ((((((u3.setCell ⟨w.heap.size,0,none⟩ (.U e')).setCell ⟨w.heap.size,1,none⟩ (.U g')).setCell ⟨w.heap.size,2,none⟩ (.U x')).setCell ⟨w.heap.size,3,none⟩ (.I 0)).setCell ⟨w.heap.size,4,none⟩ (.S pS K cS)).setCell ⟨w.heap.size,5,none⟩ (.S pN Q cN));have Xp:∀ z,z≠w.heap.size->Z.heap[z]?=u3.heap[z]?:=fun z hz=>by
  rw [hZ]
  iterate 6 rw [dF _ _ _ _ hz]
 refine bodyPost_ret (v:=.tuple #[cY e' g' x' 0 (.S pS K cS) (.S pN Q cN),.I 0]) (by simp [results,results23,go_sem,r0,r1,r2,r3,r4,r5]) rfl ⟨?_,?_⟩;{rw [<-hZ,HD.1,HD.2];have f:=(F12.keep (w':=Z) (fun z hz _=>Xp z ab)).mono (B':=w.heap.size) ab;rw [<-aa xC,<-aa J9] at f ⊢;exact ⟨pS,cS,pN,cN,rfl,f⟩};{exact (((((b12.setCell aU _).setCell aU _).setCell aU _).setCell aU _).setCell aU _).setCell aU _}};{
 have hd:decide (vN e' g' x' sl ns=l)=false:=by simpa using XD
 rw [hd];have hP:iZ l=none:=by rw [iZ,aa ES,Option.bind_some,if_neg (fun hh=>XD (by simpa using hh.2.2))]
 have HD:=ae hP;clear hP;obtain ⟨r0,r1,r2,r3,r4,r5,rf⟩:=R12.c6;have BB:=b12;go_wp2;refine bodyPost_ret (by simp [results,results23,go_sem,r0,r1,r2,r3,r4,r5]) rfl (x9 HD (Jq BB))}}})}}})}}
open Go.Maps
abbrev duS (s:aY):aY:=JA s.1
abbrev duN (nd:aD):aD:={ nd with watchers:=[] }
def Fj (w0:World) (_:World) (nd:aD) (c:List Value) (l:List Lf):Prop:=l=[]/\nd.watchers=[]/\∃ P V H,c=[P,V,.U nd.owner,.I nd.mode,H,.U nd.aB,.U nd.gen,.S none 0 0]/\Rd w0 P nd.path/\Rd w0 V nd.value/\nH w0 H nd.holders/\iH P
theorem Fj.keep (w0 w w':World) (x:aD) (c:List Value) (l:List Lf) (h:Fj w0 w x c l) (hk:∀ a∈l,w'.heap[a.b]?=w.heap[a.b]?):Fj w0 w' x c l:=h
theorem OwnT.dn {w0 w:World} {xs:List aD} (h:OwnT (Fj w0) 38 8 B w v xs Ls) (hb:Bw w0 w):kJ w v xs:=by
 obtain ⟨p,c,e,h⟩:=h.read;refine ⟨p,c,e,?_⟩;rcases h with h | ⟨g,rfl,h⟩;{exact .inl h};{refine .inr ⟨g,0,rfl,fun i nd hi=>?_⟩;obtain ⟨c,l,⟨-,hw,P,V,H,rfl,h0,h1,h4,hk⟩,hc⟩:=h i nd hi;refine ⟨P,V,H,.S none 0 0,⟨hc 0 _ rfl,hc 1 _ rfl,hc 2 _ rfl,hc 3 _ rfl,hc 4 _ rfl,hc 5 _ rfl,hc 6 _ rfl,hc 7 _ rfl,h0.below hb,h1.below hb,h4.below hb,?_,hk⟩⟩;rw [hw];exact ⟨none,0,rfl,.inl rfl⟩}
theorem M9 (e g x t:Int) (p q:Option Addr) (c n d m:Nat) (ss:List aY) (ns:List aD) (en:Hid (ss.length=n)) (em:Hid (ns.length=m)) (w:World) (h:RdS w (.S p n c) ss) (hN:kJ w (.S q m d) ns) (hn:n<=1048576) (hm:m<=1048576) :
  Calls prog 29 #[cY e g x t (.S p n c) (.S q m d)] w fun r w'=>∃ p' c' q' d',r=.returned (cY e g x 0 (.S p' n c') (.S q' m d'))/\RdS w' (.S p' n c') (ss.map duS)/\kJ w' (.S q' m d') (ns.map duN)/\Bw w w':=by
 have HR:=ae fun (w':World) (hb:Bw w w')=>ag (h.below hb) (hN.below hb);clear h hN;obtain ⟨is,his,sz0,sz1,sz2⟩:=info_parts Tryz.infoSes;obtain ⟨io,hio,oz0,oz1,oz2⟩:=info_parts Tryz.infoNod;obtain ⟨W,hW⟩:=ax (w.alloc (.cells #[.U e,.U g,.U x,.I t,.S p n c,.S q m d] 27));obtain ⟨W0,dh⟩:∃ W',W'=(W.alloc (.cells #[.U 0,.U 0,.U 0,.I 0,.S none 0 0,.S none 0 0] 27)):=⟨_,rfl⟩;have zW:W.heap.size=w.heap.size+1:=by rw [hW];simp
 have z0:W0.heap.size=w.heap.size+2:=by rw [dh];simp;omega
 have bW:=ju hW;have Qw:=ju dh;have b0:=ah bW Qw;have hA:aq W0 w.heap.size [.U e,.U g,.U x,.I t,.S p n c,.S q m d]:=by
  have:aq W w.heap.size [.U e,.U g,.U x,.I t,.S p n c,.S q m d]:=by rw [hW];exact aq.alloc w #[.U e,.U g,.U x,.I t,.S p n c,.S q m d] _
  exact this.below ab Qw
 have hR:aq W0 (w.heap.size+1) [.U 0,.U 0,.U 0,.I 0,.S none 0 0,.S none 0 0]:=by rw [dh,show w.heap.size+1=W.heap.size by omega];exact aq.alloc W #[.U 0,.U 0,.U 0,.I 0,.S none 0 0,.S none 0 0] _
 go_enter func29,ntmps29;go_wp2_with fail;rw [<-hW,<-dh];obtain ⟨w1,hw1⟩:=ax (W0.alloc (.cells #[.U e,.U g,.U x,.I 0,.S none 0 0,.S none 0 0] 27));have bq:=ju hw1;obtain ⟨sb,RH⟩:=ax (w.heap.size+2);have C1:Hid (aq w1 sb [.U e,.U g,.U x,.I 0,.S none 0 0,.S none 0 0]):=by show aq _ _ _;rw [hw1,show sb=W0.heap.size by omega];exact aq.alloc W0 #[.U e,.U g,.U x,.I 0,.S none 0 0,.S none 0 0] _
 have b1:Bw w w1:=ah b0 bq;have Hh:w.heap.size+1<sb:=ab;have zw1:sb<w1.heap.size:=by rw [hw1];simp;omega
 have A1':=ae (hA.below ab bq);have R1:=ae (hR.below ab bq);rw [show w.heap.size+2=sb from RH.symm,<-hw1];clear hW dh hw1 bq hA hR bW Qw b0 zW z0 RH
 go_loopw [4] (fun iv wr=>∃ (k:Nat) (Sv:Value) (Ls:List (List Lf)),k<=n/\iv=.I k/\Hid (aq wr sb [.U e,.U g,.U x,.I 0,Sv,.S none 0 0]/\OwnT xE 35 3 w1.heap.size wr Sv ((ss.take k).map duS) Ls)/\Hid (w1.grownBy wr (some sb))) (fun iv _=>n-(intOf iv).toNat)
 case atStart=>exact ⟨0,_,[],Nat.zero_le _,rfl,⟨C1,OwnT.nil _ _ _ _ _⟩,qR _ _⟩
 case round =>(
 obtain ⟨k,Sv,Ls,hk,rfl,pK,yb⟩:=hrel;have BB:=qY b1 yb ab;have i4:=(A1'.grown ab (aa yb) dx).1 4 _ rfl;have zr:=yb.size;by_cases bj:k<n;{
 have da:=aT k n;have fL:k<ss.length:=by rw [aa en];exact bj
 obtain ⟨⟨I,Dl,Qu⟩,hy⟩:∃ y,ss[k]?=some y:=⟨_,aK fL⟩;obtain ⟨b,o,rfl,hcI⟩:∃ b o,p=some ⟨b,o,none⟩/\wr.cell? ⟨b,o+k*3,none⟩=some (.U I):=by obtain ⟨p',c',ev,hd⟩:=(aa HR _ BB).1;simp only [Value.slice.injEq] at ev;obtain ⟨rfl,-,-⟩:=ev;rcases hd with h0 | ⟨b,o,h1,h2⟩;{rw [h0] at fL;simp at fL};{exact ⟨b,o,h1,(h2 k _ hy).1⟩}
 have HY:=ae hy;obtain ⟨hC,hO⟩:=aa pK;have hlen:((ss.take k).map duS).length=k:=by rw [List.length_map,List.length_take,aa en];omega
 have HC:=ae hC;have HO:=ae hO;have QH:=ae hlen;clear hC hO pK hlen fL hy;have hbw:b<w1.heap.size/\b≠sb:=by
  have hz:b<w.heap.size:=by obtain ⟨p',c',ev,hd⟩:=(aa HR _ aJ).1;simp only [Value.slice.injEq] at ev;obtain ⟨rfl,-,-⟩:=ev;rcases hd with h0 | ⟨b',o',h1,h2⟩;{have:=aa HY;rw [h0] at this;simp at this};{simp only [Option.some.injEq,Addr.mk.injEq] at h1;obtain ⟨rfl,rfl,-⟩:=h1;exact World.block_lt_of_cell? w _ (h2 k _ HY).1}
  omega
 have cl:=HC.1 4 _ rfl;go_wp2_with fail;obtain ⟨vA,aX⟩:=ax wr.drew;have bA:=dG aX;have CA:=ae (HC.below ab bA);have OA:=ae (HO.below xE.keep bA);have GA:Hid (w1.grownBy vA (some sb)):=jt yb (az bA none) (fun b e=>by cases e);have SA:Hid (vA.cell? ⟨sb,4,none⟩=some Sv/\vA.cell? ⟨w.heap.size,4,none⟩=some (.S (some ⟨b,o,none⟩) n c)/\vA.cell? ⟨b,o+k*3,none⟩=some (.U I)):=⟨af cl bA,af i4 bA,af hcI bA⟩;have zA:=bA.size;refine wp_region_noPanic ?_;refine kP 12 (S:=fun w'=>w'.cell? ⟨sb,4,none⟩=some Sv/\w'.cell? ⟨w.heap.size,4,none⟩=some (.S (some ⟨b,o,none⟩) n c)/\w'.cell? ⟨b,o+k*3,none⟩=some (.U I)) (by rw [<-aX];exact aa SA) (fun hS=>?_);rw [<-aX] at hS ⊢;clear aX bA cl i4 hcI HC HO yb;refine Tb 0 1 2 3 hS ?_;refine Tb 4 5 6 7 hS ?_;refine JQ 8 hS ?_;refine fk 9 (fun KK hK=>?_);go_simp;obtain ⟨v3,JW⟩:=ax (vA.alloc (.cells #[.U I,.I 0,.S none 0 0] 35));have de:=ju JW;have Wl:∀ i u,([.U I,.I 0,.S none 0 0]:List Value)[i]?=some u->v3.cell? ⟨vA.heap.size,i,none⟩=some u:=by rw [JW];exact lp
 have Gy:=ae Wl;have z3:v3.heap.size=vA.heap.size+1:=by rw [JW];simp
 rw [<-JW];have CO:=ae OA.lt;have C3:=ae (CA.below ab de);have G3:Hid (w1.grownBy v3 (some sb)):=jt GA (az de none) (fun b e=>by cases e);have zG:=G3.size;have S3:=ae (ag (af SA.1 de) (ag (af SA.2.1 de) (af SA.2.2 de)));obtain ⟨row,kT,oe⟩:=OA.app xE.keep de (xE.id v3 I) rfl (lx.nil _ _) GA.size;rw [aa QH] at kT oe;have AO:=ae oe;have um:=ae kT;refine NU hK S3 fun hS=>?_;clear hK KK oe Wl kT JW de CA OA GA SA;refine fk 10 (fun KK hK=>?_);refine jB bU _ _ 24 bU w1.heap.size 35 is _ 3 40 underlying24 his sz0 sz1 sz2 rfl bl Sv k _ bU (aa um) vA.heap.size 1 1 [.U I,.I 0,.S none 0 0] bU rfl (aa Gy) (fun u hu=>by simp at hu;rcases hu with rfl | rfl | rfl<;>rfl) jC ab zG ?_;intro v' w9 dW hg mr;obtain ⟨sn,pN,cN,rfl⟩:=aa AO v' w9 dW hg mr;have gd:∀ z,z<w1.heap.size->some z≠Sv.ownBlock:=fun z hz e=>by have:=(CO.1 z e.symm).1;omega
 have C9:=C3.grown ab hg (gd sb ab);have G9:w1.grownBy w9 (some sb):=jt G3 hg (fun b e=>.inl (CO.1 b e).1);have S9:=ag (hg.cell S3.1 (gd sb ab)) (ag (hg.cell S3.2.1 (gd w.heap.size ab)) (hg.cell S3.2.2 (gd b hbw.1)));have CT:=ae (C9.dI 4 aU (.S pN (k+1) cN));have OT:=ae (sn.Iq xE.keep (sb:=sb) ab 4 (.S pN (k+1) cN));have GT:Hid (w1.grownBy (w9.setCell ⟨sb,4,none⟩ (.S pN (k+1) cN)) (some sb)):=gK G9 (aE w9 ⟨sb,4,none⟩ _);have HC9:=ae C9;have EL:Hid ((ss.take k).map duS++[JA I]=(ss.take (k+1)).map duS):=by
  show _=_;rw [l9 (aa HY),List.map_append]
  rfl
 refine NU hK S9 fun hS=>?_;clear hK KK dW hg mr sn C9 G9 S9 C3 G3 S3 AO um Gy CO;refine tEo 11 hS ?_;refine fk 12 (fun KK hK=>?_);have cc:=HC9.1 4 _ rfl;have cf:=HC9.2;go_simp;refine oGX hK ?_;refine rA ?_;refine xS ?_;clear hS hK KK HC9 cc cf;go_wp2;go_roundw
 case rel=>exact ⟨k+1,_,_,ab,by go_num,(by rw [<-aa EL];exact ⟨aa CT,aa OT⟩),GT⟩
 exact dC};{
 have da:=dy k n;have ekK:n=k:=ab;subst ekK;obtain ⟨hC,hO⟩:=aa pK;rw [List.take_of_length_le (Nat.le_of_eq (aa en))] at hO;obtain ⟨w3,ew3⟩:=ax wr;subst ew3;obtain ⟨pS,cS,evS,-⟩:=id hO.read;rw [List.length_map,aa en] at evS;subst evS;have C3:=ae hC;have O3:=ae hO;have G3:=yb;have A3:=ae (A1'.grown ab (aa yb) dx);have R3:=ae (R1.grown ab (aa yb) dx);have b3:=BB;clear hC hO pK yb hk bj BB A1' R1 C1;have zw3:w1.heap.size<=w3.heap.size:=zr;clear zr;go_wp2_with fail;clear i4 da
 go_loopw [5] (fun iv wr=>∃ (k:Nat) (Nv:Value) (Ls:List (List Lf)),k<=m/\iv=.I k/\Hid (aq wr sb [.U e,.U g,.U x,.I 0,.S pS n cS,Nv]/\OwnT (Fj w) 38 8 w3.heap.size wr Nv ((ns.take k).map duN) Ls)/\Hid (w3.grownBy wr (some sb))) (fun iv _=>m-(intOf iv).toNat)
 case atStart=>exact ⟨0,_,[],Nat.zero_le _,rfl,⟨C3,OwnT.nil _ _ _ _ _⟩,qR _ _⟩
 case round =>(
 obtain ⟨k,Nv,Ls,hk,rfl,pK,yb⟩:=hrel;have BB:=qY b3 yb ab;have i5:=(A3.grown ab (aa yb) dx).1 5 _ rfl;have zr:=yb.size;by_cases bj:k<m;{
 have da:=aT k m;have fL:k<ns.length:=by rw [aa em];exact bj
 obtain ⟨nd,hy⟩:∃ y,ns[k]?=some y:=⟨_,aK fL⟩;obtain ⟨b,o,rfl,P,V,H,U,na⟩:∃ b o,q=some ⟨b,o,none⟩/\∃ P V H U,mY w b (o+k*8) nd P V H U:=by obtain ⟨p',c',ev,hd⟩:=(aa HR _ aJ).2;simp only [Value.slice.injEq] at ev;obtain ⟨rfl,-,-⟩:=ev;rcases hd with h0 | ⟨b,o,h1,h2⟩;{rw [h0] at fL;simp at fL};{exact ⟨b,o,h1,h2 k _ hy⟩}
 have HY:=ae hy;obtain ⟨ow,RU⟩:=aH nd.owner;obtain ⟨mo,XT⟩:=aH nd.mode;obtain ⟨ep,X6⟩:=aH nd.aB;obtain ⟨ge,XZ⟩:=aH nd.gen;have EL8:Hid (Fj w w (duN nd) [P,V,.U ow,.I mo,H,.U ep,.U ge,.S none 0 0] []):=⟨rfl,rfl,P,V,H,by rw [<-RU,<-XT,<-X6,<-XZ],na.r0,na.r1,na.r4,na.k0⟩;have nb:=na.below BB;obtain ⟨a0,a1,a2,a3,a4,a5,a6,a7,r0,r1,r4,r7,-⟩:=nb;rw [RU] at a2;rw [XT] at a3;rw [X6] at a5;rw [XZ] at a6;obtain ⟨hC,hO⟩:=aa pK;have hlen:((ns.take k).map duN).length=k:=by rw [List.length_map,List.length_take,aa em];omega
 have HC:=ae hC;have HO:=ae hO;have QH:=ae hlen;obtain ⟨p0,c0,rfl,-⟩:=id r0;obtain ⟨p1,c1,rfl,-⟩:=id r1;obtain ⟨p4,c4,rfl,-⟩:=id r4;obtain ⟨p7,c7,rfl,-⟩:=id r7;obtain ⟨n0,en0⟩:=aH nd.path.length;obtain ⟨n1,xC⟩:=aH nd.value.length;obtain ⟨n4,en4⟩:=aH nd.holders.length;rw [en0] at a0 EL8;rw [xC] at a1 EL8;rw [en4] at a4 EL8;obtain ⟨X,hX⟩:=ax (wr.alloc (.cells #[.S p0 n0 c0,.S p1 n1 c1,.U ow,.I mo,.S p4 n4 c4,.U ep,.U ge,.S none 0 0] 38));have bX:=ju hX;have zX:X.heap.size=wr.heap.size+1:=by rw [hX];simp
 have CX:aq X wr.heap.size [.S p0 n0 c0,.S p1 n1 c1,.U ow,.I mo,.S p4 n4 c4,.U ep,.U ge,.S none 0 0]:=by rw [hX];exact aq.alloc wr #[.S p0 n0 c0,.S p1 n1 c1,.U ow,.I mo,.S p4 n4 c4,.U ep,.U ge,.S none 0 0] _
 have CA:=ae (HC.below ab bX);have OA:=ae (HO.below (Fj.keep w) bX);have GA:Hid (w3.grownBy X (some sb)):=jt yb (az bX none) (fun b e=>by cases e);obtain ⟨v3,JW⟩:=ax (X.alloc (.cells #[.S p0 n0 c0,.S p1 n1 c1,.U ow,.I mo,.S p4 n4 c4,.U ep,.U ge,.S none 0 0] 38));have de:=ju JW;have Wl:∀ i u,([.S p0 n0 c0,.S p1 n1 c1,.U ow,.I mo,.S p4 n4 c4,.U ep,.U ge,.S none 0 0]:List Value)[i]?=some u->v3.cell? ⟨X.heap.size,i,none⟩=some u:=by rw [JW];exact lp
 rw [zX] at Wl;have Gy:=ae Wl;have z3:v3.heap.size=X.heap.size+1:=by rw [JW];simp
 have CO:=ae OA.lt;have C3':=ae (CA.below ab de);have G3':Hid (w3.grownBy v3 (some sb)):=jt GA (az de none) (fun b e=>by cases e);have zG:=G3'.size;obtain ⟨row,kT,oe⟩:=OA.app (Fj.keep w) de EL8 rfl (lx.nil _ _) GA.size;rw [aa QH] at kT oe;have AO:=ae oe;have um:=ae kT;have s5:=CA.1 5 _ rfl;have d0:=CX.1 0 _ rfl;have d1:=CX.1 1 _ rfl;have d2:=CX.1 2 _ rfl;have d3:=CX.1 3 _ rfl;have d4:=CX.1 4 _ rfl;have d5:=CX.1 5 _ rfl;have d6:=CX.1 6 _ rfl;have d7:=CX.1 7 _ rfl;have HX:=ae hX;rw [hX] at s5 d0 d1 d2 d3 d4 d5 d6 d7;clear hC hO pK hlen fL hy na r0 r1 r4 r7 RU XT X6 XZ en0 xC en4 oe Wl kT de bX CX hX HC HO yb CA OA GA;go_wp2_with (at_builtin;rw [<-aa HX,<-JW];refine e8 rfl _ _ 25 rfl w3.heap.size 38 io _ 8 128 underlying25 hio oz0 oz1 oz2 rfl bl Nv k _ rfl (aa um) (wr.heap.size+1) 1 1 [.S p0 n0 c0,.S p1 n1 c1,.U ow,.I mo,.S p4 n4 c4,.U ep,.U ge,.S none 0 0] rfl rfl (aa Gy) (fun u hu=>by simp at hu;rcases hu with rfl | rfl | rfl | rfl | rfl | rfl | rfl | rfl<;>rfl) jC ab zG ?_);intro v' w9 dW hg tA;have mr:∀ g,v'.ownBlock=some g->Nv.ownBlock=some g\/v3.heap.size<=g:=fun g e=>by have:=tA g e;rw [z3,zX];exact this
 rw [<-JW] at hg;obtain ⟨sn,pN,cN,rfl⟩:=aa AO v' w9 dW hg mr;have C9:=C3'.grown ab hg (fun e=>by have:=(CO.1 sb e.symm).1;omega);have G9:w3.grownBy w9 (some sb):=jt G3' hg (fun b e=>.inl (CO.1 b e).1);have CT:=ae (C9.dI 5 aU (.S pN (k+1) cN));have OT:=ae (sn.Iq (Fj.keep w) (sb:=sb) ab 5 (.S pN (k+1) cN));have GT:Hid (w3.grownBy (w9.setCell ⟨sb,5,none⟩ (.S pN (k+1) cN)) (some sb)):=gK G9 (aE w9 ⟨sb,5,none⟩ _);have cc:=C9.1 5 _ rfl;have cf:=C9.2;have EL:Hid ((ns.take k).map duN++[duN nd]=(ns.take (k+1)).map duN):=by
  show _=_;rw [l9 (aa HY),List.map_append]
  rfl
 clear dW hg mr tA sn C9 G9 JW d0 d1 d2 d3 d4 d5 d6 d7 s5 HX a0 a1 a2 a3 a4 a5 a6 a7 i5 AO um Gy CO C3' G3';go_wp2;go_roundw
 case rel=>exact ⟨k+1,_,_,ab,by go_num,(by rw [<-aa EL];exact ⟨aa CT,aa OT⟩),GT⟩
 exact dC};{
 have da:=dy k m;have ekm:m=k:=ab;subst ekm;obtain ⟨hC,hO⟩:=aa pK;rw [List.take_of_length_le (Nat.le_of_eq (aa em))] at hO;obtain ⟨pN,cN,Ua,-⟩:=id hO.read;rw [List.length_map,aa em] at Ua;subst Ua;have ON:=ae hO;have R4:=R3.grown ab (aa yb) dx;have c0:=hC.1 0 _ rfl;have c1:=hC.1 1 _ rfl;have c2:=hC.1 2 _ rfl;have c3:=hC.1 3 _ rfl;have c4:=hC.1 4 _ rfl;have c5:=hC.1 5 _ rfl;have r0:=R4.1 0 _ rfl;have r1:=R4.1 1 _ rfl;have r2:=R4.1 2 _ rfl;have r3:=R4.1 3 _ rfl;have r4:=R4.1 4 _ rfl;have r5:=R4.1 5 _ rfl;have rf:=R4.2;have Tn:¬ w.heap.size+1=sb:=ab;have hsn:¬ sb=w.heap.size+1:=ab;have z3r:=yb.size;clear hO hC R4 pK;go_wp2;obtain ⟨Z,hZ⟩:=ax ((((((wr.setCell ⟨w.heap.size+1,0,none⟩ (.U e)).setCell ⟨w.heap.size+1,1,none⟩ (.U g)).setCell ⟨w.heap.size+1,2,none⟩ (.U x)).setCell ⟨w.heap.size+1,3,none⟩ (.I 0)).setCell ⟨w.heap.size+1,4,none⟩ (.S pS n cS)).setCell ⟨w.heap.size+1,5,none⟩ (.S pN m cN));have Xp:∀ z,z≠w.heap.size+1->Z.heap[z]?=wr.heap[z]?:=fun z hz=>by
  rw [hZ]
  iterate 6 rw [dF _ _ _ _ hz]
 have Yk:Bw w Z:=by rw [hZ];exact (((((BB.setCell aU _).setCell aU _).setCell aU _).setCell aU _).setCell aU _).setCell aU _
 refine bodyPost_ret (v:=cY e g x 0 (.S pS n cS) (.S pN m cN)) (by simp [results,results29,go_sem,r0,r1,r2,r3,r4,r5,c0,c1,c2,c3,c4,c5]) rfl ?_;rw [<-hZ];have hS:=aa O3;have hN:=aa ON;have lS:=hS.lt;have lN:=hN.lt;have zZ:Z.heap.size=wr.heap.size:=by rw [hZ];simp
 have k1:∀ z,w1.heap.size<=z->z<w3.heap.size->Z.heap[z]?=w3.heap[z]?:=fun z hz JU=>by rw [Xp _ ab];exact yb.block _ ab dx
 have k2:∀ z,w3.heap.size<=z->Z.heap[z]?=wr.heap[z]?:=fun z hz=>Xp _ ab;have Er:=hS.keep (xE.keep _ _) ab (fun z hz=>k1 z (lS.1 z hz).1 (lS.1 z hz).2) (fun a ha=>k1 _ (lS.2 a ha).1 (lS.2 a ha).2);have Et:=hN.keep (Fj.keep w _ _) ab (fun z hz=>k2 z (lN.1 z hz).1) (fun a ha=>k2 _ (lN.2 a ha).1);exact ⟨pS,cS,pN,cN,rfl,Er.se.1.rd,Et.dn Yk,Yk⟩})})
theorem oY.keep {w w':World} {n:Nat} (h:oY w R m n sh) (hk:∀ b,b<=R->w'.heap[b]?=w.heap[b]?):oY w' R m n sh:=by
 obtain ⟨h1,h2,p,c,⟨h3,h4⟩,h5,h6⟩:=h;have e:=ai (hk R aA);refine ⟨h1,fun o=>(World.frozen?_of_block (hk R aA)).trans (h2 o),p,c,⟨(e 0).trans h3,(e 1).trans h4⟩,?_,h6⟩;rcases h5 with h5 | ⟨b,o,hb,hp,h5⟩;{exact .inl h5};{exact .inr ⟨b,o,hb,hp,fun i hi=>(ai (hk b ab) _).trans (h5 i hi)⟩}
theorem oY.below {w w':World} {n:Nat} (h:oY w R m n sh) (hb:Below B w w') (hR:R<B):oY w' R m n sh:=h.keep fun b hbR=>hb.block b (by omega)
theorem Kept.Qr {w w':World} (h:Kept [aI R] w w') (hb:b<w.heap.size) (gd:b≠R):w'.heap[b]?=w.heap[b]?:=h.block b hb fun v hv e=>by
 simp only [List.mem_singleton] at hv;subst hv;simp [Value.ownBlock] at e;exact gd e.symm
theorem ua.fx {w w':World} (h:ua B w v l) (hk:Kept [aI R] w w') (hR:R<B):ua B w' v l:=by
 refine ⟨h.1,?_⟩;rcases h.2 with hn | ⟨g,cap,cur,rfl,hb,hg,rest⟩;{exact .inl hn};{exact .inr ⟨g,cap,cur,rfl,hb,(hk.Qr (Array.getElem?_eq_some_iff.1 hg).1 ab).trans hg,rest⟩}
theorem OwnT.fx {α:Type} {el:World->α->List Value->List Lf->Prop} {w w':World} {xs:List α} (h:OwnT el ty sz B w v xs Ls)
  (dz:∀ w w' x c l,el w x c l->(∀ a∈l,w'.heap[a.b]?=w.heap[a.b]?)->el w' x c l) (hk:Kept [aI R] w w') (hR:R<B):OwnT el ty sz B w' v xs Ls:=
 h.keep (dz _ _) hk.size (fun b hb=>hk.Qr (h.lt.1 b hb).2 (by have:=(h.lt.1 b hb).1;omega)) (fun a ha=>hk.Qr (h.lt.2 a ha).2 (by have:=(h.lt.2 a ha).1;omega))
theorem OwnT.bA0 {α:Type} {el:World->α->List Value->List Lf->Prop} {xs:List α} {x:α} {l:List Lf} (h:OwnT el ty sz B V3 v xs Ls)
  (dz:∀ w w' x c l,el w x c l->(∀ a∈l,w'.heap[a.b]?=w.heap[a.b]?)->el w' x c l) (hx:el V3 x c l) (hc:c.length=sz) (hA:lx M V3 l) (hB:B<=M) (hM:∀ a∈Ls.flatten,a.b<M) (hvM:∀ b,v.ownBlock=some b->b<M) :
  ∃ row,V3.ownsRow B ty sz v xs.length row/\∀ v' w9,w9.ownsRow B ty sz v' (xs.length+1) (row++c)->V3.grownBy w9 v.ownBlock->(∀ g,v'.ownBlock=some g->v.ownBlock=some g\/V3.heap.size<=g) →
   OwnT el ty sz B w9 v' (xs++[x]) (Ls++[l])/\∃ p c',v'=.S p (xs.length+1) c':=by
 obtain ⟨cs,g1,g2,g3,g4,g5,g6,g7⟩:=h;refine ⟨cs.flatten,g4,fun v' w9 dW hg mr=>?_⟩;have sn:=OwnT.snoc g1 g2 g3 g5 g6 g7 dz hx hc hA hB hM hvM dW hg mr;refine ⟨sn,?_⟩;obtain ⟨p,c',e,-⟩:=sn.read;rw [List.length_append] at e;exact ⟨p,c',e⟩
theorem PB.fx {w w':World} (h:PB w M N v xs A) (hk:Kept [aI R] w w') (hR:R<M):PB w' M N v xs A:=
 have k:∀ a∈A,w'.heap[a.b]?=w.heap[a.b]?:=fun a ha=>hk.Qr (h.ap.vE.lt ha) (by have:=h.ap.lo a ha;omega)
 ⟨h.rd.keepLv h.lv k,h.cap,h.lv,h.ap.keep k,h.hi⟩
theorem PU.fx {w w':World} (h:PU w M N v xs A) (hk:Kept [aI R] w w') (hR:R<M):PU w' M N v xs A:=
 have k:∀ a∈A,w'.heap[a.b]?=w.heap[a.b]?:=fun a ha=>hk.Qr (h.ap.vE.lt ha) (by have:=h.ap.lo a ha;omega)
 ⟨h.rd.keepLv h.lv k,h.lv,h.ap.keep k,h.hi⟩
theorem aq.fx {w w':World} (h:aq w b vs) (hk:Kept [aI R] w w') (hb:b<w.heap.size) (gd:b≠R):aq w' b vs:=
 ⟨fun i v hi=>(ai (hk.Qr hb gd) _).trans (h.1 i v hi),fun o=>(World.frozen?_of_block (hk.Qr hb gd)).trans (h.2 o)⟩
theorem Kept.Jb {w w1 w2:World} {row:Option Nat} (h:Kept [aI R] w w1) (hg:w1.grownBy w2 row) (hr:∀ k,row=some k->w.heap.size<=k):Kept [aI R] w w2:=
 ⟨hg.os.trans h.os,hg.tape.trans h.tape,hg.output.trans h.output,Nat.le_trans h.size hg.size,fun k hk hv=>(hg.block k (Nat.lt_of_lt_of_le hk h.size) (fun e=>by have:=hr k e.symm;omega)).trans (h.block k hk hv)⟩
theorem Kept.qy {w w1:World} (h:Kept [aI R] w w1) {a:Addr} (ha:w.heap.size<=a.block) (v:Value):Kept [aI R] w (w1.setCell a v):=
 h.Jb (aE w1 a v) fun k e=>by cases e;exact ha
theorem Ks (R:Nat) (m:List Int) (n:Nat) (sh:Bool) (w:World) (h:oY w R m n sh) (hR:R<w.heap.size) (hb:bM m) (hl:n<=1048576) (x:Int) (m':List Int) (ng:Bool) (e:Hid (jV (m,sh)=(x,m',ng))) :
  Calls prog 66 #[.pointer (some ⟨R,0,none⟩)] w fun e w'=>e=.returned (.agg #[.U x,.I 0,.S none 0 0])/\oY w' R m' m'.length ng/\Kept [aI R] w w':=by
 obtain ⟨W,hW⟩:=ax (w.alloc (.cells #[.U 0,.I 0,.S none 0 0] 35));have bW:=ju hW;have hC:aq W w.heap.size [.U 0,.I 0,.S none 0 0]:=by rw [hW];exact aq.alloc w #[.U 0,.I 0,.S none 0 0] _
 have zW:W.heap.size=w.heap.size+1:=by rw [hW];simp
 go_enter func66,ntmps66;go_wp2_with fail;rw [<-hW];clear hW;refine (gQ R m n sh _ (h.below bW hR) hb hl x m' ng e).mono ?_;rintro r w1 ⟨rfl,sU,nw⟩;have C1:=hC.fx nw ab ab;have KK:=ae ((Kept.nR (vs:=[aI R]) bW).trans nw);have Us:=ae sU;have r0:=C1.1 0 _ rfl;have r1:=C1.1 1 _ rfl;have r2:=C1.1 2 _ rfl;have rf:=C1.2;clear hC nw sU C1 h;go_wp2;refine bodyPost_ret (v:=.agg #[.U x,.I 0,.S none 0 0]) (by simp [results,results66,go_sem,r0,r1,r2]) rfl ⟨rfl,?_,?_⟩;{exact Us.keep fun b hb=>by iterate 3 rw [dF _ _ _ _ dx]}
 {exact ((KK.qy aU _).qy aU _).qy aU _}
theorem aa2 (R:Nat) (m:List Int) (n:Nat) (sh:Bool) (w:World) (h:oY w R m n sh) (hR:R<w.heap.size) (hb:Hid (bM m)) (hl:n<=1048576) (xs:List Int) (m':List Int) (ng:Bool) (e:Hid (lF jV (m,sh)=(xs,m',ng))) (N:Nat) (eN:Hid (xs.length=N)) :
  Calls prog 129 #[.pointer (some ⟨R,0,none⟩),.func (.func 57) #[.pointer (some ⟨R,0,none⟩)] #[]] w fun r w'=>∃ p' c',r=.returned (.S p' N c')/\(ua w.heap.size w' ((.S p' N c')) xs)/\oY w' R m' m'.length ng/\Kept [aI R] w w':=by
 obtain ⟨iu,hiu,uz0,uz1,uz2⟩:=info_parts Tryz.infoU64;have US:m.length=n:=h.1;obtain ⟨⟨x,m1,s1⟩,e1⟩:∃ y,Hid (jV (m,sh)=y):=⟨_,cw⟩;have ok1:=jU (m,sh) (aa hb) (by rw [US];exact hl);rw [aa e1] at ok1;obtain ⟨hx,bq,Cd,-⟩:=ok1;dsimp only at Cd;obtain ⟨X,rfl⟩:∃ v:Nat,x=(v:Int):=⟨x.toNat,by have:=hx.1;omega⟩;have hX:(X:Int)<18446744073709551616:=hx.2;have e2:Hid (vC jV X [] (m1,s1)=(xs,m',ng)):=by have:=aa e;rw [lF,aa e1] at this;exact this
 have jN:=ae bq;clear hx bq;go_enter func129,ntmps129;go_wp2_with fail;refine (gQ R m n sh _ h hb hl X m1 s1 e1).mono ?_;rintro r w1 ⟨rfl,sU,nw⟩;have Us:=ae sU;have Uw:=ae nw;clear sU nw h;go_wp2
 go_loopw [5,9] (fun lv iv wr=>∃ (i:Nat) (acc:List Int) (k:Nat) (m2:List Int) (s2:Bool) (n2:Nat) (p:Option Addr) (c:Nat),i<=X/\lv=.S p k c/\iv=.U i/\k+n2<=1048576/\Hid (acc.length=k)/\Hid (m2.length=n2)/\Hid (vC jV (X-i) acc (m2,s2)=(xs,m',ng))/\Hid (bM m2)/\Hid (oY wr R m2 n2 s2)/\Hid (ua w.heap.size wr ((.S p k c)) acc)/\Hid (Kept [aI R] w wr)) (fun _ iv _=>X-(intOf iv).toNat)
 case atStart=>exact ⟨0,[],0,m1,s1,m1.length,none,0,Nat.zero_le _,rfl,rfl,ab,cw,cw,e2,jN,Us,World.ownsRow_nil _ _ _ _,Uw⟩
 case round =>(
 clear Us Uw jN e2;obtain ⟨i,acc,k,m2,s2,n2,p,c,hi,rfl,rfl,Ra,ek,J9,e3,cX,mG,vF,yC⟩:=hrel;have Fz:=yC.size;by_cases bj:i<X;{
 have da:=aT i X;have wi:IntKind.u64.wrap ((i:Int)+1)=((i+1:Nat):Int):=by rw [IntKind.wrap_u64];omega
 obtain ⟨⟨d,m3,s3⟩,e4⟩:∃ y,Hid (jV (m2,s2)=y):=⟨_,cw⟩;have ok3:=jU (m2,s2) (aa cX) (by show m2.length<=_;rw [aa J9];omega);rw [aa e4] at ok3;obtain ⟨-,de,OY,Q8⟩:=ok3;dsimp only at OY Q8;rw [aa J9] at OY Q8;have e5:Hid (vC jV (X-i-1+1) acc (m2,s2)=(xs,m',ng)):=by rw [show X-i-1+1=X-i by omega];exact e3
 have ra:=ae de;clear de;go_wp2_with fail;refine (gQ R m2 n2 s2 _ mG cX ab d m3 s3 e4).mono ?_;rintro r w3 ⟨rfl,EH,uJ⟩;have Oy:=ae (yC.trans uJ);have Pt:=ae EH;have z3:=uJ.size;obtain ⟨l3,f3,pr,cr,⟨g0,g1⟩,-⟩:=EH;have O3:=ae (vF.fx uJ ab);clear uJ;cases s3 with
 | true=>
  clear Q8;have e6:xs=[]/\m'=m3/\ng=true:=by have:=aa e5;rw [vC,aa e4,if_pos rfl] at this;simp only [Prod.mk.injEq] at this;exact ⟨this.1.symm,this.2.1.symm,this.2.2.symm⟩
  obtain ⟨rfl,rfl,rfl⟩:=e6;have I9:N=0:=eN.symm;subst I9;go_wp2;go_ret;exact ⟨none,0,rfl,World.ownsRow_nil _ _ _ _,Pt,Oy⟩
 | false=>
  have Ya:=Q8 rfl;clear Q8;have e6:Hid (vC jV (X-(i+1)) (acc++[d]) (m3,false)=(xs,m',ng)):=by have:=aa e5;rw [vC,aa e4,if_neg aU] at this;exact this
  obtain ⟨n3,en3⟩:∃ k,Hid (m3.length=k):=⟨_,cw⟩;rw [aa en3] at Ya OY Pt l3 g0;clear l3 g0;obtain ⟨v3,JW⟩:=ax (w3.alloc (.cells #[.U d] 23));have de:=ju JW;have Wl:∀ i u,([.U d]:List Value)[i]?=some u->v3.cell? ⟨w3.heap.size,i,none⟩=some u:=by rw [JW];exact lp
  have Gy:=ae Wl;have z4:v3.heap.size=w3.heap.size+1:=by rw [JW];simp
  have CO:Hid (∀ b,(Value.slice p k c).ownBlock=some b->w.heap.size<=b):=fun b eb=>(O3.lt b eb).1;have um:Hid (v3.ownsRow w.heap.size 23 1 (.S p k c) k (acc.map (Value.int .u64))):=by have:=O3.below de;unfold ua at this;rw [aa ek] at this;exact this
  have R4:=ae (Pt.below de ab);have K4:=ae (Oy.trans (Kept.nR de));clear Wl;go_wp2_with (at_builtin;rw [<-JW];refine e8 rfl _ _ 36 rfl w.heap.size 23 iu _ 1 8 underlying36 hiu uz0 uz1 uz2 rfl bl (.S p k c) k _ rfl (aa um) (w3.heap.size) 1 1 [.U d] rfl rfl (aa Gy) (fun u hu=>by simp at hu;subst hu;rfl) jC ab ab ?_);intro v' w9 dW hg tA;have mr:∀ g,v'.ownBlock=some g->(Value.slice p k c).ownBlock=some g\/v3.heap.size<=g:=fun g eg=>by have:=tA g eg;rw [JW];simpa using this
  rw [<-JW] at hg;have sn:=ua.snoc ek dW;obtain ⟨pN,cN,e9⟩:=sn.form;rw [List.length_append,aa ek] at e9;subst e9;have SN:Hid (ua w.heap.size w9 (.S pN (k+1) cN) (acc++[d])):=sn;have K9:=ae (K4.Jb hg (fun b eb=>aa CO b eb));have R9:=ae (R4.keep fun b hbR=>hg.block b ab (fun eb=>by have:=aa CO b eb.symm;omega));have EK:Hid ((acc++[d]).length=k+1):=by show _=_;rw [List.length_append,aa ek];rfl
  clear dW hg mr tA sn JW de g1 f3;go_wp2;go_roundw
  case rel=>exact ⟨i+1,acc++[d],k+1,m3,false,n3,pN,cN,ab,rfl,by go_num,ab,EK,en3,e6,ra,R9,SN,K9⟩
  exact dC};{
 have da:=dy i X;have eiX:X=i:=ab;have e6:xs=acc/\m'=m2/\ng=s2:=by have:=aa e3;rw [show X-i=0 by omega,vC] at this;simp only [Prod.mk.injEq] at this;exact ⟨this.1.symm,this.2.1.symm,this.2.2.symm⟩
 obtain ⟨rfl,rfl,rfl⟩:=e6;have Es:N=k:=eN.symm.trans ek;subst Es;have R9:Hid (oY wr R m' m'.length ng):=by rw [aa J9];exact mG
 go_wp2;go_ret;exact ⟨p,c,rfl,vF,R9,yC⟩})
theorem aa3 (R:Nat) (m:List Int) (n:Nat) (sh:Bool) (w:World) (h:oY w R m n sh) (hR:R<w.heap.size) (hb:Hid (bM m)) (hl:n<=1048576) (xs:List aY) (m':List Int) (ng:Bool) (e:Hid (lF NS (m,sh)=(xs,m',ng))) (N:Nat) (eN:Hid (xs.length=N)) :
  Calls prog 65 #[.pointer (some ⟨R,0,none⟩),.func (.func 66) #[.pointer (some ⟨R,0,none⟩)] #[]] w fun r w'=>∃ p' c',r=.returned (.S p' N c')/\(∃ Ls,OwnT xE 35 3 w.heap.size w' ((.S p' N c')) xs Ls)/\oY w' R m' m'.length ng/\Kept [aI R] w w':=by
 obtain ⟨iu,hiu,uz0,uz1,uz2⟩:=info_parts Tryz.infoSes;have US:m.length=n:=h.1;obtain ⟨⟨x,m1,s1⟩,e1⟩:∃ y,Hid (jV (m,sh)=y):=⟨_,cw⟩;have ok1:=jU (m,sh) (aa hb) (by rw [US];exact hl);rw [aa e1] at ok1;obtain ⟨hx,bq,Cd,-⟩:=ok1;dsimp only at Cd;obtain ⟨X,rfl⟩:∃ v:Nat,x=(v:Int):=⟨x.toNat,by have:=hx.1;omega⟩;have hX:(X:Int)<18446744073709551616:=hx.2;have e2:Hid (vC NS X [] (m1,s1)=(xs,m',ng)):=by have:=aa e;rw [lF,aa e1] at this;exact this
 have jN:=ae bq;clear hx bq;go_enter func65,ntmps65;go_wp2_with fail;refine (gQ R m n sh _ h hb hl X m1 s1 e1).mono ?_;rintro r w1 ⟨rfl,sU,nw⟩;have Us:=ae sU;have Uw:=ae nw;clear sU nw h;go_wp2
 go_loopw [5,9] (fun lv iv wr=>∃ (i:Nat) (acc:List aY) (k:Nat) (m2:List Int) (s2:Bool) (n2:Nat) (p:Option Addr) (c:Nat),i<=X/\lv=.S p k c/\iv=.U i/\k+n2<=1048576/\Hid (acc.length=k)/\Hid (m2.length=n2)/\Hid (vC NS (X-i) acc (m2,s2)=(xs,m',ng))/\Hid (bM m2)/\Hid (oY wr R m2 n2 s2)/\Hid (∃ Ls,OwnT xE 35 3 w.heap.size wr ((.S p k c)) acc Ls)/\Hid (Kept [aI R] w wr)) (fun _ iv _=>X-(intOf iv).toNat)
 case atStart=>exact ⟨0,[],0,m1,s1,m1.length,none,0,Nat.zero_le _,rfl,rfl,ab,cw,cw,e2,jN,Us,⟨[],OwnT.nil _ _ _ _ _⟩,Uw⟩
 case round =>(
 clear Us Uw jN e2;obtain ⟨i,acc,k,m2,s2,n2,p,c,hi,rfl,rfl,Ra,ek,J9,e3,cX,mG,vF,yC⟩:=hrel;have Fz:=yC.size;by_cases bj:i<X;{
 have da:=aT i X;have wi:IntKind.u64.wrap ((i:Int)+1)=((i+1:Nat):Int):=by rw [IntKind.wrap_u64];omega
 obtain ⟨⟨d,m3,s3⟩,e4⟩:∃ y,Hid (NS (m2,s2)=y):=⟨_,cw⟩;have ok3:=Hf (m2,s2) (aa cX) (by show m2.length<=_;rw [aa J9];omega);rw [aa e4] at ok3;obtain ⟨-,de,OY,Q8⟩:=ok3;dsimp only at OY Q8;rw [aa J9] at OY Q8;have e5:Hid (vC NS (X-i-1+1) acc (m2,s2)=(xs,m',ng)):=by rw [show X-i-1+1=X-i by omega];exact e3
 have ra:=ae de;clear de;have e4n:Hid (jV (m2,s2)=(d.1,m3,s3)):=by
  have:=aa e4;rw [NS] at this;show _=_;simp only [Prod.mk.injEq] at this;rw [<-this.1,<-this.2]
  rfl
 have hd:d=JA d.1:=by
  have:=aa e4;rw [NS] at this;simp only [Prod.mk.injEq] at this;rw [<-this.1]
  rfl
 obtain ⟨y,ey⟩:=aH d.1;rw [ey] at e4n hd;have HD:=ae hd;clear hd ey;go_wp2_with fail;refine (Ks R m2 n2 s2 _ mG ab cX ab y m3 s3 e4n).mono ?_;rintro r w3 ⟨rfl,EH,uJ⟩;have Oy:=ae (yC.trans uJ);have Pt:=ae EH;have z3:=uJ.size;have TI:oY (w3.alloc (.cells #[.U y,.I 0,.S none 0 0] 35)) R m3 m3.length s3:=EH.below (aJ.alloc aA _) ab;obtain ⟨l3,f3,pr,cr,⟨g0,g1⟩,-⟩:=TI;obtain ⟨Ls,hoT⟩:=aa vF;have O3:=ae (hoT.fx xE.keep uJ ab);have HLT:=ae hoT.lt;clear hoT;clear EH uJ;cases s3 with
 | true=>
  clear Q8;have e6:xs=[]/\m'=m3/\ng=true:=by have:=aa e5;rw [vC,aa e4,if_pos rfl] at this;simp only [Prod.mk.injEq] at this;exact ⟨this.1.symm,this.2.1.symm,this.2.2.symm⟩
  obtain ⟨rfl,rfl,rfl⟩:=e6;have I9:N=0:=eN.symm;subst I9;go_wp2;go_ret;exact ⟨none,0,rfl,⟨[],OwnT.nil _ _ _ _ _⟩,Pt.below (aJ.alloc aA _) ab,Oy.alloc _⟩
 | false=>
  have Ya:=Q8 rfl;clear Q8;have e6:Hid (vC NS (X-(i+1)) (acc++[d]) (m3,false)=(xs,m',ng)):=by have:=aa e5;rw [vC,aa e4,if_neg aU] at this;exact this
  obtain ⟨n3,en3⟩:∃ k,Hid (m3.length=k):=⟨_,cw⟩;rw [aa en3] at Ya OY Pt l3 g0;clear l3 g0;obtain ⟨v3,JW⟩:=ax ((w3.alloc (.cells #[.U y,.I 0,.S none 0 0] 35)).alloc (.cells #[.U y,.I 0,.S none 0 0] 35));have de:Bw w3 v3:=by rw [JW];exact (aJ.alloc aA _).alloc aU _
  have Wl:∀ i u,([.U y,.I 0,.S none 0 0]:List Value)[i]?=some u->v3.cell? ⟨w3.heap.size+1,i,none⟩=some u:=by have e0:(w3.alloc (.cells #[.U y,.I 0,.S none 0 0] 35)).heap.size=w3.heap.size+1:=aU;rw [JW,<-e0];exact lp
  have Gy:=ae Wl;have z4:v3.heap.size=w3.heap.size+2:=by rw [JW];simp
  have elx:xE v3 d [.U y,.I 0,.S none 0 0] []:=by rw [aa HD];exact xE.id v3 y
  have apx:lx w3.heap.size v3 []:=lx.nil _ _;obtain ⟨row,kT,oe⟩:=O3.app xE.keep de elx rfl apx ab;have CO:Hid (∀ b,(Value.slice p k c).ownBlock=some b->w.heap.size<=b):=fun b eb=>(O3.lt.1 b eb).1;rw [aa ek] at kT oe;have AO:=ae oe;have um:=ae kT;clear oe kT;have R4:=ae (Pt.below de ab);have K4:=ae (Oy.trans (Kept.nR de));clear Wl;go_wp2_with (at_builtin;rw [<-JW];refine e8 rfl _ _ 24 rfl w.heap.size 35 iu _ 3 40 underlying24 hiu uz0 uz1 uz2 rfl bl (.S p k c) k _ rfl (aa um) (w3.heap.size+1) 1 1 [.U y,.I 0,.S none 0 0] rfl rfl (aa Gy) (fun u hu=>by simp at hu;rcases hu with rfl | rfl | rfl<;>rfl) jC ab ab ?_);intro v' w9 dW hg tA;have mr:∀ g,v'.ownBlock=some g->(Value.slice p k c).ownBlock=some g\/v3.heap.size<=g:=fun g eg=>by have:=tA g eg;rw [JW];simpa using this
  rw [<-JW] at hg;obtain ⟨sn,pN,cN,rfl⟩:=aa AO v' w9 dW hg mr;have SN:Hid (∃ Ls,OwnT xE 35 3 w.heap.size w9 ((.S pN (k+1) cN)) (acc++[d]) Ls):=⟨_,sn⟩;have K9:=ae (K4.Jb hg (fun b eb=>aa CO b eb));have R9:=ae (R4.keep fun b hbR=>hg.block b ab (fun eb=>by have:=aa CO b eb.symm;omega));have EK:Hid ((acc++[d]).length=k+1):=by show _=_;rw [List.length_append,aa ek];rfl
  clear dW hg mr tA sn JW de g1 f3;go_wp2;go_roundw
  case rel=>exact ⟨i+1,acc++[d],k+1,m3,false,n3,pN,cN,ab,rfl,by go_num,ab,EK,en3,e6,ra,R9,SN,K9⟩
  exact dC};{
 have da:=dy i X;have eiX:X=i:=ab;have e6:xs=acc/\m'=m2/\ng=s2:=by have:=aa e3;rw [show X-i=0 by omega,vC] at this;simp only [Prod.mk.injEq] at this;exact ⟨this.1.symm,this.2.1.symm,this.2.2.symm⟩
 obtain ⟨rfl,rfl,rfl⟩:=e6;have Es:N=k:=eN.symm.trans ek;subst Es;have R9:Hid (oY wr R m' m'.length ng):=by rw [aa J9];exact mG
 go_wp2;go_ret;exact ⟨p,c,rfl,vF,R9,yC⟩})
theorem SP (R:Nat) (m:List Int) (n:Nat) (sh:Bool) (w:World) (h:oY w R m n sh) (hR:R<w.heap.size) (hb:Hid (bM m)) (hl:n<=1048576) (d:aD) (m':List Int) (ng:Bool) (e:Hid (Hy (m,sh)=(d,m',ng))) :
  Calls prog 68 #[.pointer (some ⟨R,0,none⟩)] w fun r w'=>∃ (pP:Option Addr) (NP cP:Nat) (pV:Option Addr) (NV cV:Nat) (ow mo:Int) (pH:Option Addr) (NH cH:Nat) (ep ge:Int) (Ae:List Lf),r=.returned (.agg #[.S pP NP cP,.S pV NV cV,.U ow,.I mo,.S pH NH cH,.U ep,.U ge,.S none 0 0])/\mT w' d [.S pP NP cP,.S pV NV cV,.U ow,.I mo,.S pH NH cH,.U ep,.U ge,.S none 0 0] Ae/\lx w.heap.size w' Ae/\oY w' R m' m'.length ng/\Kept [aI R] w w':=by
 have US:m.length=n:=h.1;obtain ⟨⟨P,m1,s1⟩,E1⟩:∃ y,Hid (sT m sh=y):=⟨_,cw⟩;obtain ⟨⟨V,m2,s2⟩,E2⟩:∃ y,Hid (sT m1 s1=y):=⟨_,cw⟩;obtain ⟨⟨ow,m3,s3⟩,E3⟩:∃ y,Hid (jV (m2,s2)=y):=⟨_,cw⟩;obtain ⟨⟨mo,m4,s4⟩,E4⟩:∃ y,Hid (sB m3 s3=y):=⟨_,cw⟩;obtain ⟨⟨H,m5,s5⟩,E5⟩:∃ y,Hid (lF jV (m4,s4)=y):=⟨_,cw⟩;obtain ⟨⟨ep,m6,s6⟩,E6⟩:∃ y,Hid (jV (m5,s5)=y):=⟨_,cw⟩;obtain ⟨⟨ge,m7,s7⟩,E7⟩:∃ y,Hid (jV (m6,s6)=y):=⟨_,cw⟩;have ED:Hid (d=⟨P,V,ow,mo,H,ep,ge,[]⟩/\m'=m7/\ng=s7):=by have:=aa e;rw [Hy] at this;simp only [aa E1,aa E2,aa E3,aa E4,aa E5,aa E6,aa E7,Prod.mk.injEq] at this;exact ⟨this.1.symm,this.2.1.symm,this.2.2.symm⟩
 have k1:=Ab (sh:=sh) hb;rw [aa E1] at k1;obtain ⟨-,c1,-,d1⟩:=k1;dsimp only at c1 d1;have k2:=Ab (sh:=s1) c1;rw [aa E2] at k2;obtain ⟨-,c2,-,d2⟩:=k2;dsimp only at c2 d2;have k3:=jU (m2,s2) c2 (by dsimp only;omega);rw [aa E3] at k3;obtain ⟨-,c3,d3,-⟩:=k3;dsimp only at c3 d3;have k4:=Ai (sh:=s3) c3;rw [aa E4] at k4;obtain ⟨c4,-,-,d4⟩:=k4;dsimp only at c4 d4;have k5:=CF jU (m4,s4) c4 (by dsimp only;omega);rw [aa E5] at k5;obtain ⟨-,c5,d5,-⟩:=k5;dsimp only at c5 d5;have k6:=jU (m5,s5) c5 (by dsimp only;omega);rw [aa E6] at k6;obtain ⟨-,c6,d6,-⟩:=k6;dsimp only at c6 d6;have B1:=ae c1;have B2:=ae c2;have B3:=ae c3;have B4:=ae c4;have B5:=ae c5;have B6:=ae c6;have g1:m1.length<=1048576:=ab;have g2:m2.length<=1048576:=ab;have g3:m3.length<=1048576:=ab;have g4:m4.length<=1048576:=ab;have g5:m5.length<=1048576:=ab;have g6:m6.length<=1048576:=ab;clear c1 c2 c3 c4 c5 c6 d1 d2 d3 d4 d5 d6 US;obtain ⟨NP,eP⟩:∃ k,Hid (P.length=k):=⟨_,cw⟩;obtain ⟨NV,eV⟩:∃ k,Hid (V.length=k):=⟨_,cw⟩;obtain ⟨NH,eH⟩:∃ k,Hid (H.length=k):=⟨_,cw⟩;obtain ⟨W,hW⟩:=ax (w.alloc (.cells #[.S none 0 0,.S none 0 0,.U 0,.I 0,.S none 0 0,.U 0,.U 0,.S none 0 0] 38));have bW:=ju hW;have C0:Hid (aq W w.heap.size [.S none 0 0,.S none 0 0,.U 0,.I 0,.S none 0 0,.U 0,.U 0,.S none 0 0]):=by show aq _ _ _;rw [hW];exact aq.alloc w #[.S none 0 0,.S none 0 0,.U 0,.I 0,.S none 0 0,.U 0,.U 0,.S none 0 0] _
 have zW:W.heap.size=w.heap.size+1:=by rw [hW];simp
 have R0:=ae (h.below bW hR);have K0:=ae (Kept.nR (vs:=[aI R]) bW);go_enter func68,ntmps68;go_wp2_with fail;rw [<-hW];clear hW h bW;refine (Dw R m n sh _ R0 hb hl ab P m1 s1 E1 NP eP).mono ?_;rintro z9 y1 ⟨pP,cP,rfl,oP,iV,nw⟩;obtain ⟨lP,fP⟩:=Own.pb oP;have FP1:=ae fP;have C1:=ae (C0.fx nw ab ab);have K1:=ae (K0.trans nw);have R1:=ae iV;have z1:=nw.size;clear nw iV C0 K0 R0  oP fP;go_wp2_with fail;refine (Dw R m1 m1.length s1 _ R1 B1 g1 ab V m2 s2 E2 NV eV).mono ?_;rintro z9 y2 ⟨pV,cV,rfl,oV',mG,yC⟩;obtain ⟨lV,fV⟩:=Own.pb oV';have FV2:=ae fV;have C2:=ae (C1.fx yC ab ab);have K2:=ae (K1.trans yC);have R2:=ae mG;have z2:=yC.size;have FP2:=ae (FP1.fx yC ab);clear yC mG C1 K1 R1 FP1 oV' fV;go_wp2_with fail;refine (gQ R m2 m2.length s2 _ R2 B2 g2 ow m3 s3 E3).mono ?_;rintro z9 y3 ⟨rfl,EH,uJ⟩;have C3:=ae (C2.fx uJ ab ab);have K3:=ae (K2.trans uJ);have R3:=ae EH;have z3:=uJ.size;have FP3:=ae (FP2.fx uJ ab);have FV3:=ae (FV2.fx uJ ab);clear uJ EH C2 K2 R2 FP2 FV2;go_wp2_with fail;refine (zN R m3 m3.length s3 _ R3 B3 g3 mo m4 s4 E4).mono ?_;rintro z9 y4 ⟨rfl,TI,PZ⟩;have C4:=ae (C3.fx PZ ab ab);have K4:=ae (K3.trans PZ);have R4:=ae TI;have z4:=PZ.size;have FP4:=ae (FP3.fx PZ ab);have FV4:=ae (FV3.fx PZ ab);clear PZ TI C3 K3 R3 FP3 FV3;go_wp2_with fail;refine (aa2 R m4 m4.length s4 _ R4 ab B4 g4 H m5 s5 E5 NH eH).mono ?_;rintro z9 y5 ⟨pH,cH,rfl,oH,hr5,UZ⟩;obtain ⟨lH,fH⟩:=ua.pu oH;have FH5:=ae fH;have C5:=ae (C4.fx UZ ab ab);have K5:=ae (K4.trans UZ);have R5:=ae hr5;have z5:=UZ.size;have FP5:=ae (FP4.fx UZ ab);have FV5:=ae (FV4.fx UZ ab);clear UZ hr5 C4 K4 R4 FP4 FV4 oH fH;go_wp2_with fail;refine (gQ R m5 m5.length s5 _ R5 B5 g5 ep m6 s6 E6).mono ?_;rintro z9 y6 ⟨rfl,hr6,hk6⟩;have C6:=ae (C5.fx hk6 ab ab);have K6:=ae (K5.trans hk6);have R6:=ae hr6;have z6:=hk6.size;have FP6:=ae (FP5.fx hk6 ab);have FV6:=ae (FV5.fx hk6 ab);have FH6:=ae (FH5.fx hk6 ab);clear hk6 hr6 C5 K5 R5 FP5 FV5 FH5;go_wp2_with fail;refine (gQ R m6 m6.length s6 _ R6 B6 g6 ge m7 s7 E7).mono ?_;rintro z9 y7 ⟨rfl,hr7,hk7⟩;have C7:=ae (C6.fx hk7 ab ab);have K7:=ae (K6.trans hk7);have R7:=ae hr7;have z7:=hk7.size;have FP7:=ae (FP6.fx hk7 ab);have FV7:=ae (FV6.fx hk7 ab);have FH7:=ae (FH6.fx hk7 ab);clear hk7 hr7 C6 K6 R6 FP6 FV6 FH6;have r0:=C7.1 0 _ rfl;have r1:=C7.1 1 _ rfl;have r2:=C7.1 2 _ rfl;have r3:=C7.1 3 _ rfl;have r4:=C7.1 4 _ rfl;have r5:=C7.1 5 _ rfl;have r6:=C7.1 6 _ rfl;have r7:=C7.1 7 _ rfl;have rf:=C7.2;go_wp2;obtain ⟨Z,hZ⟩:=ax ((((((((y7.setCell ⟨w.heap.size,0,none⟩ (.S pP NP cP)).setCell ⟨w.heap.size,1,none⟩ (.S pV NV cV)).setCell ⟨w.heap.size,2,none⟩ (.U ow)).setCell ⟨w.heap.size,3,none⟩ (.I mo)).setCell ⟨w.heap.size,4,none⟩ (.S pH NH cH)).setCell ⟨w.heap.size,5,none⟩ (.U ep)).setCell ⟨w.heap.size,6,none⟩ (.U ge)).setCell ⟨w.heap.size,7,none⟩ (.S none 0 0));have VT:∀ b,b≠w.heap.size->Z.heap[b]?=y7.heap[b]?:=fun b hb=>by
  rw [hZ]
  iterate 8 rw [dF _ _ _ _ hb]
 obtain ⟨ed,em,es⟩:=aa ED;subst em es;refine bodyPost_ret (v:=.agg #[.S pP NP cP,.S pV NV cV,.U ow,.I mo,.S pH NH cH,.U ep,.U ge,.S none 0 0]) (by simp [results,results68,go_sem,r0,r1,r2,r3,r4,r5,r6,r7]) rfl ?_;rw [<-hZ];have k0:=FP7.rj (z0:=w.heap.size) ab VT;have k1:=FV7.rj (z0:=w.heap.size) ab VT;have k4:=FH7.rj (z0:=w.heap.size) ab VT;rw [<-aa eP] at k0;rw [<-aa eV] at k1;rw [<-aa eH] at k4;obtain ⟨en,apn⟩:=mT.mk4 (nd:=⟨P,V,ow,mo,H,ep,ge,[]⟩) (B:=w.heap.size) k0 k1 k4 (PU.nil Z y7.heap.size y7.heap.size) ab ab ab ab ab ab ab ab ab ab;dsimp only at en;rw [aa eP,aa eV,aa eH] at en;rw [ed];refine ⟨_,_,_,_,_,_,_,_,_,_,_,_,_,_,rfl,en,apn,R7.keep fun b hb=>VT b ab,?_⟩;rw [hZ];exact (((((((K7.qy aU _).qy aU _).qy aU _).qy aU _).qy aU _).qy aU _).qy aU _).qy aU _
theorem aa4 (R:Nat) (m:List Int) (n:Nat) (sh:Bool) (w:World) (h:oY w R m n sh) (hR:R<w.heap.size) (hb:Hid (bM m)) (hl:n<=1048576) (xs:List aD) (m':List Int) (ng:Bool) (e:Hid (lF Hy (m,sh)=(xs,m',ng))) (N:Nat) (eN:Hid (xs.length=N)) :
  Calls prog 67 #[.pointer (some ⟨R,0,none⟩),.func (.func 68) #[.pointer (some ⟨R,0,none⟩)] #[]] w fun r w'=>∃ p' c',r=.returned (.S p' N c')/\(∃ Ls,OwnT mT 38 8 w.heap.size w' ((.S p' N c')) xs Ls)/\oY w' R m' m'.length ng/\Kept [aI R] w w':=by
 obtain ⟨iu,hiu,uz0,uz1,uz2⟩:=info_parts Tryz.infoNod;have US:m.length=n:=h.1;obtain ⟨⟨x,m1,s1⟩,e1⟩:∃ y,Hid (jV (m,sh)=y):=⟨_,cw⟩;have ok1:=jU (m,sh) (aa hb) (by rw [US];exact hl);rw [aa e1] at ok1;obtain ⟨hx,bq,Cd,-⟩:=ok1;dsimp only at Cd;obtain ⟨X,rfl⟩:∃ v:Nat,x=(v:Int):=⟨x.toNat,by have:=hx.1;omega⟩;have hX:(X:Int)<18446744073709551616:=hx.2;have e2:Hid (vC Hy X [] (m1,s1)=(xs,m',ng)):=by have:=aa e;rw [lF,aa e1] at this;exact this
 have jN:=ae bq;clear hx bq;go_enter func67,ntmps67;go_wp2_with fail;refine (gQ R m n sh _ h hb hl X m1 s1 e1).mono ?_;rintro r w1 ⟨rfl,sU,nw⟩;have Us:=ae sU;have Uw:=ae nw;clear sU nw h;go_wp2
 go_loopw [5,9] (fun lv iv wr=>∃ (i:Nat) (acc:List aD) (k:Nat) (m2:List Int) (s2:Bool) (n2:Nat) (p:Option Addr) (c:Nat),i<=X/\lv=.S p k c/\iv=.U i/\k+n2<=1048576/\Hid (acc.length=k)/\Hid (m2.length=n2)/\Hid (vC Hy (X-i) acc (m2,s2)=(xs,m',ng))/\Hid (bM m2)/\Hid (oY wr R m2 n2 s2)/\Hid (∃ Ls,OwnT mT 38 8 w.heap.size wr ((.S p k c)) acc Ls)/\Hid (Kept [aI R] w wr)) (fun _ iv _=>X-(intOf iv).toNat)
 case atStart=>exact ⟨0,[],0,m1,s1,m1.length,none,0,Nat.zero_le _,rfl,rfl,ab,cw,cw,e2,jN,Us,⟨[],OwnT.nil _ _ _ _ _⟩,Uw⟩
 case round =>(
 clear Us Uw jN e2;obtain ⟨i,acc,k,m2,s2,n2,p,c,hi,rfl,rfl,Ra,ek,J9,e3,cX,mG,vF,yC⟩:=hrel;have Fz:=yC.size;by_cases bj:i<X;{
 have da:=aT i X;have wi:IntKind.u64.wrap ((i:Int)+1)=((i+1:Nat):Int):=by rw [IntKind.wrap_u64];omega
 obtain ⟨⟨d,m3,s3⟩,e4⟩:∃ y,Hid (Hy (m2,s2)=y):=⟨_,cw⟩;have ok3:=Hn (m2,s2) (aa cX) (by show m2.length<=_;rw [aa J9];omega);rw [aa e4] at ok3;obtain ⟨-,de,OY,Q8⟩:=ok3;dsimp only at OY Q8;rw [aa J9] at OY Q8;have e5:Hid (vC Hy (X-i-1+1) acc (m2,s2)=(xs,m',ng)):=by rw [show X-i-1+1=X-i by omega];exact e3
 have ra:=ae de;clear de;go_wp2_with fail;refine (SP R m2 n2 s2 _ mG ab cX ab d m3 s3 e4).mono ?_;rintro r w3 ⟨pP,NP,cP,pV,NV,cV,ow,mo,pH,NH,cH,ep,ge,Ae,rfl,YA,BN,EH,uJ⟩;have EE:=ae (ag YA (ag trivial BN));clear YA BN;have Oy:=ae (yC.trans uJ);have Pt:=ae EH;have z3:=uJ.size;have TI:oY (w3.alloc (.cells #[.S pP NP cP,.S pV NV cV,.U ow,.I mo,.S pH NH cH,.U ep,.U ge,.S none 0 0] 38)) R m3 m3.length s3:=EH.below (aJ.alloc aA _) ab;obtain ⟨l3,f3,pr,cr,⟨g0,g1⟩,-⟩:=TI;obtain ⟨Ls,hoT⟩:=aa vF;have O3:=ae (hoT.fx mT.keep uJ ab);have HLT:=ae hoT.lt;clear hoT;clear EH uJ;cases s3 with
 | true=>
  clear Q8;have e6:xs=[]/\m'=m3/\ng=true:=by have:=aa e5;rw [vC,aa e4,if_pos rfl] at this;simp only [Prod.mk.injEq] at this;exact ⟨this.1.symm,this.2.1.symm,this.2.2.symm⟩
  obtain ⟨rfl,rfl,rfl⟩:=e6;have I9:N=0:=eN.symm;subst I9;go_wp2;go_ret;exact ⟨none,0,rfl,⟨[],OwnT.nil _ _ _ _ _⟩,Pt.below (aJ.alloc aA _) ab,Oy.alloc _⟩
 | false=>
  have Ya:=Q8 rfl;clear Q8;have e6:Hid (vC Hy (X-(i+1)) (acc++[d]) (m3,false)=(xs,m',ng)):=by have:=aa e5;rw [vC,aa e4,if_neg aU] at this;exact this
  obtain ⟨n3,en3⟩:∃ k,Hid (m3.length=k):=⟨_,cw⟩;rw [aa en3] at Ya OY Pt l3 g0;clear l3 g0;obtain ⟨v3,JW⟩:=ax ((w3.alloc (.cells #[.S pP NP cP,.S pV NV cV,.U ow,.I mo,.S pH NH cH,.U ep,.U ge,.S none 0 0] 38)).alloc (.cells #[.S pP NP cP,.S pV NV cV,.U ow,.I mo,.S pH NH cH,.U ep,.U ge,.S none 0 0] 38));have de:Bw w3 v3:=by rw [JW];exact (aJ.alloc aA _).alloc aU _
  have Wl:∀ i u,([.S pP NP cP,.S pV NV cV,.U ow,.I mo,.S pH NH cH,.U ep,.U ge,.S none 0 0]:List Value)[i]?=some u->v3.cell? ⟨w3.heap.size+1,i,none⟩=some u:=by have e0:(w3.alloc (.cells #[.S pP NP cP,.S pV NV cV,.U ow,.I mo,.S pH NH cH,.U ep,.U ge,.S none 0 0] 38)).heap.size=w3.heap.size+1:=aU;rw [JW,<-e0];exact lp
  have Gy:=ae Wl;have z4:v3.heap.size=w3.heap.size+2:=by rw [JW];simp
  have kE:∀ a∈Ae,v3.heap[a.b]?=w3.heap[a.b]?:=fun a ha=>de.block _ (EE.2.2.vE.lt ha);have elx:mT v3 d [.S pP NP cP,.S pV NV cV,.U ow,.I mo,.S pH NH cH,.U ep,.U ge,.S none 0 0] Ae:=mT.keep _ _ _ _ _ EE.1 kE;have apx:lx wr.heap.size v3 Ae:=EE.2.2.keep kE;obtain ⟨row,kT,oe⟩:=(O3.below mT.keep de).bA0 mT.keep elx rfl apx ab (fun a ha=>(HLT.2 a ha).2) (fun b eb=>(HLT.1 b eb).2);have CO:Hid (∀ b,(Value.slice p k c).ownBlock=some b->w.heap.size<=b):=fun b eb=>(O3.lt.1 b eb).1;rw [aa ek] at kT oe;have AO:=ae oe;have um:=ae kT;clear oe kT;have R4:=ae (Pt.below de ab);have K4:=ae (Oy.trans (Kept.nR de));clear Wl;go_wp2_with (at_builtin;rw [<-JW];refine e8 rfl _ _ 25 rfl w.heap.size 38 iu _ 8 128 underlying25 hiu uz0 uz1 uz2 rfl bl (.S p k c) k _ rfl (aa um) (w3.heap.size+1) 1 1 [.S pP NP cP,.S pV NV cV,.U ow,.I mo,.S pH NH cH,.U ep,.U ge,.S none 0 0] rfl rfl (aa Gy) (fun u hu=>by simp at hu;rcases hu with rfl | rfl | rfl | rfl | rfl | rfl | rfl | rfl<;>rfl) jC ab ab ?_);intro v' w9 dW hg tA;have mr:∀ g,v'.ownBlock=some g->(Value.slice p k c).ownBlock=some g\/v3.heap.size<=g:=fun g eg=>by have:=tA g eg;rw [JW];simpa using this
  rw [<-JW] at hg;obtain ⟨sn,pN,cN,rfl⟩:=aa AO v' w9 dW hg mr;have SN:Hid (∃ Ls,OwnT mT 38 8 w.heap.size w9 ((.S pN (k+1) cN)) (acc++[d]) Ls):=⟨_,sn⟩;have K9:=ae (K4.Jb hg (fun b eb=>aa CO b eb));have R9:=ae (R4.keep fun b hbR=>hg.block b ab (fun eb=>by have:=aa CO b eb.symm;omega));have EK:Hid ((acc++[d]).length=k+1):=by show _=_;rw [List.length_append,aa ek];rfl
  clear dW hg mr tA sn JW de g1 f3;go_wp2;go_roundw
  case rel=>exact ⟨i+1,acc++[d],k+1,m3,false,n3,pN,cN,ab,rfl,by go_num,ab,EK,en3,e6,ra,R9,SN,K9⟩
  exact dC};{
 have da:=dy i X;have eiX:X=i:=ab;have e6:xs=acc/\m'=m2/\ng=s2:=by have:=aa e3;rw [show X-i=0 by omega,vC] at this;simp only [Prod.mk.injEq] at this;exact ⟨this.1.symm,this.2.1.symm,this.2.2.symm⟩
 obtain ⟨rfl,rfl,rfl⟩:=e6;have Es:N=k:=eN.symm.trans ek;subst Es;have R9:Hid (oY wr R m' m'.length ng):=by rw [aa J9];exact mG
 go_wp2;go_ret;exact ⟨p,c,rfl,vF,R9,yC⟩})
theorem Te (p:Option Addr) (c n:Nat) (l:List aD) (en:Hid (l.length=n)) (w:World) (h:kJ w (.S p n c) l) (hn:n<=900) (ss:List aY) (hu:Hid (Oc ss l)) (N:Nat) (eN:Hid ((rR km l).length=N)) (hN:N<=4194304) :
  Calls prog 72 #[.S p n c,.func (.func 73) #[] #[]] w fun e w'=>∃ p' c',e=.returned (.S p' N c')/\Own w.heap.size w' (.S p' N c') (rR km l)/\Bw w w':=by
 obtain ⟨ib,Zo,mw,iT,jW⟩:=info_parts Tryz.infoSl;have HR:=ae fun (w':World) (hb:Bw w w')=>h.below hb;clear h;have wn:IntKind.u64.wrap (n:Int)=(n:Int):=by rw [IntKind.wrap_u64];omega
 go_enter func72,ntmps72;go_wp2_with fail;refine (ku n w ab).mono ?_;rintro r w1 ⟨p1,c1,rfl,o1,b1⟩;obtain ⟨Ls0,hP⟩:=rr.one o1 b1.size;obtain ⟨v0,IV⟩:=ax (w1.alloc (.cells #[.S p1 (vi n).length c1] 22));have hb0:Bw w v0:=by rw [IV];exact b1.alloc b1.size _
 rw [<-IV] at hP;have HP:=ae hP;clear hP o1;generalize (vi n).length=M at *;go_wp2;rw [<-IV];clear IV b1
 go_loopw [5,15] (fun pv iv wr=>∃ (k:Nat) (p2:Option Addr) (c2:Nat) (Ls:List (List Lf)),k<=n/\pv=.S p2 (k+1) c2/\iv=.I k/\Hid (rr w.heap.size wr (.S p2 (k+1) c2) (vi n::(l.take k).map km) Ls)/\Bw w wr) (fun _ iv _=>n-(intOf iv).toNat)
 case atStart=>exact ⟨0,_,_,_,Nat.zero_le _,rfl,rfl,HP,hb0⟩
 case round =>(
 obtain ⟨k,p2,c2,Ls,hk,rfl,rfl,ho,aR⟩:=hrel;by_cases bj:k<n;{
 have da:=aT k n;have fL:k<l.length:=by rw [aa en];exact bj
 obtain ⟨nd,hy⟩:∃ y,l[k]?=some y:=⟨_,aK fL⟩;have hi:=hu.d nd (aF hy);have hlen:=(IC hu.w nd (aF hy)).1;obtain ⟨b,o,rfl,PP,PV,PH,PU,UR⟩:∃ b o,p=some ⟨b,o,none⟩/\∃ P V H U,mY wr b (o+k*8) nd P V H U:=by obtain ⟨p',c',ev,hd⟩:=aa HR _ aR;simp only [Value.slice.injEq] at ev;obtain ⟨rfl,-,-⟩:=ev;rcases hd with h0 | ⟨b,o,h1,h2⟩;{rw [h0] at fL;simp at fL};{exact ⟨b,o,h1,h2 k _ hy⟩}
 obtain ⟨pA,cA,nA,rfl,eA⟩:=UR.r0.gD;obtain ⟨pB,cB,nB,rfl,eB⟩:=UR.r1.gD;obtain ⟨pD,cD,nD,rfl,eD⟩:=UR.r4.gD;obtain ⟨pU,cU,nU,rfl,-⟩:=UR.r7.gD;obtain ⟨Yh,kH,jF,Rn,DO,Pb,Pa,hc7,q0,q1,q4,-,-⟩:=UR;have QQ:=ae (ag q0 (ag q1 q4));obtain ⟨⟨j1,j2,j3⟩,j4,j5,j6,j7,j8⟩:=hi;rw [aa eA] at j1;rw [aa eB] at j2;rw [aa eD] at j3;have J8:=ae j8;obtain ⟨ow,RU⟩:∃ v:Nat,nd.owner=(v:Int):=⟨nd.owner.toNat,ab⟩;obtain ⟨ep,X6⟩:∃ v:Nat,nd.aB=(v:Int):=⟨nd.aB.toNat,ab⟩;obtain ⟨ge,XZ⟩:∃ v:Nat,nd.gen=(v:Int):=⟨nd.gen.toNat,ab⟩;obtain ⟨mo,XT⟩:∃ v:Int,nd.mode=v:=⟨_,rfl⟩;rw [RU] at jF j5;rw [X6] at Pb j6;rw [XZ] at Pa j7;rw [XT] at Rn j4;obtain ⟨M3,Yj⟩:∃ M,Hid ((km nd).length=M):=⟨_,cw⟩;have eNB:Hid (km nd=UQ nd.path nd.value ow mo nd.holders ep ge):=by show _=_;rw [km,RU,X6,XZ,XT];rfl
 have bv2:Hid ((UQ nd.path nd.value ow mo nd.holders ep ge).length=M3):=by show _=_;rw [<-aa eNB];exact aa Yj
 rw [aa Yj] at hlen;clear q0 q1 q4 j8 RU X6 XZ XT;have HY:=ae hy;clear fL hy;have wk:IntKind.i64.wrap ((k:Int)+1)=((k+1:Nat):Int):=by rw [IntWalk.i64_in _ ab];omega
 go_wp2_with fail;obtain ⟨X,hX⟩:=ax (wr.alloc (.cells #[.S pA nA cA,.S pB nB cB,.U ow,.I mo,.S pD nD cD,.U ep,.U ge,.S pU nU cU] 38));have Yl:=ju hX;have vF:=ae (ho.below xf.keep Yl);have Xz:=ah aR Yl;rw [<-hX];refine (It pA pB pD nA cA nB cB nD cD (.S pU nU cU) nd.path nd.value nd.holders ow ep ge mo eA eB eD X (QQ.1.below Yl) (QQ.2.1.below Yl) (QQ.2.2.below Yl) ab ab ab J8 ab ab ab j4 M3 bv2 ab).mono ?_;clear hX ho aR Yl;rintro r w3 ⟨p3,c3,rfl,o3,de⟩;rw [<-aa eNB] at o3;have b3:=ah Xz de;have hA:Bw w3 (w3.alloc (.cells #[.S p3 M3 c3] 22)):=aJ.alloc aA _;have OZ:=vF.below xf.keep (ah de hA);have zk:=vF.lt;obtain ⟨lb,q1,q2,-,q4⟩:=KR (kd:=.u8) (Own.below o3 hA);have XU:xf (w3.alloc (.cells #[.S p3 M3 c3] 22)) (km nd) [.S p3 M3 c3] lb:=by have z1:=(Own.below o3 hA).rd;have z2:=q1;rw [<-aa Yj] at z1 z2 ⊢;exact ⟨p3,c3,rfl,z1,z2⟩
 obtain ⟨cs,g1,g2,g3,g4,g5,g6,g7⟩:=id OZ;have aG4:(vi n::(l.take k).map km).length=k+1:=by rw [List.length_cons,List.length_map,List.length_take,aa en];omega
 rw [aG4] at g4;have z3:=de.size;have zr:=Xz.size;have EL:=ae XU;have Q2:=ae q2;have GG:=ae (ag g1 (ag g2 (ag g3 (ag g5 (ag g6 g7)))));have HLV:=ae zk;have LX:=ae aG4;clear Yh kH jF Rn DO Pb Pa hc7 o3 OZ q1 q2 q4 XU g1 g2 g3 g5 g6 g7 zk aG4 vF;have Xt:∀ j u,[Value.slice p3 M3 c3][j]?=some u->(w3.alloc (.cells #[.S p3 M3 c3] 22)).cell? ⟨w3.heap.size,j,none⟩=some u:=fun j u hu=>by have:=(aq.alloc w3 #[.S p3 M3 c3] 22).1 j u (by simpa using hu);exact this
 go_wp2_with (at_builtin;refine e8 rfl _ _ 39 rfl w.heap.size 22 ib _ 1 24 underlying39 Zo mw iT jW rfl bl (.S p2 (k+1) c2) (k+1) _ rfl g4 w3.heap.size 1 1 [.S p3 M3 c3] rfl rfl Xt (fun u hu=>by simp at hu;subst hu;rfl) jC ab dx ?_);intro v' w9 dW hg mr;obtain ⟨p9,c9,rfl⟩:∃ p9 c9,v'=.S p9 (k+1+1) c9:=by rcases dW.2 with ⟨rfl,h0⟩ | ⟨g,cap,cur,rfl,-⟩;{omega};{exact ⟨_,_,rfl⟩}
 obtain ⟨g1,g2,g3,g5,g6,g7⟩:=aa GG;have zk:=aa HLV;have CK:w9.ownsRow w.heap.size 22 1 (.S p9 (k+1+1) c9) ((vi n::(l.take k).map km).length+1) (cs.flatten++[.S p3 M3 c3]):=by rw [aa LX];exact dW
 have sn:=OwnT.snoc g1 g2 g3 g5 g6 g7 xf.keep EL rfl Q2 ab (fun a ha=>(zk.2 a ha).2) (fun b hb=>(zk.1 b hb).2) CK hg (fun g sy=>by have:=mr g sy;simpa using this)
 have eL:(vi n::(l.take k).map km)++[km nd]=vi n::(l.take (k+1)).map km:=by rw [List.take_add_one,aa HY,List.map_append];simp
 rw [eL] at sn;have fo:Bw w w9:=(b3.alloc b3.size _).grown hg dx (fun b hb=>(zk.1 b hb).1);have SN:=ae sn;clear sn eL dW CK hg mr g1 g2 g3 g4 g5 g6 g7 zk Xt GG EL Q2;go_wp2;go_roundw
 case rel=>exact ⟨k+1,_,_,_,ab,rfl,by go_num,SN,fo⟩
 exact dC};{
 have da:=dy k n;have Ex:n=k:=ab;subst Ex;have hO:=aa ho;rw [List.take_of_length_le (by rw [aa en];exact Nat.le_refl _)] at hO;have aG4:(vi n::l.map km).length=n+1:=by rw [List.length_cons,List.length_map,aa en]
 obtain ⟨G,vs,rfl,hPa⟩:=hO.parts aG4 ab;have HPA:=ae hPa;have EE:Hid (rR km l=cat (vi n::l.map km)):=by show _=_;rw [rR,aa en]
 have LX:=ae aG4.symm;clear hO hPa aG4 ho hk bj;go_wp2_with fail;refine (tf G c2 vs (vi n::l.map km) (rR km l) N (n+1) LX EE eN _ HPA hN ab).mono ?_;rintro r w5 ⟨p5,c5,rfl,o5,ew⟩;have b5:=ah aR ew;have O5:=ae (Own.mono (B':=w.heap.size) o5 aR.size);clear o5 ew;go_wp2;go_ret;exact ⟨p5,c5,rfl,O5,b5⟩})
theorem aa7 (X:World) (v0 v1 v2 v3 v4:Value) (l0 l1 l2 l3 l4 lm:List Int) (N:Nat) (e:Hid (lm=cat [l0,l1,l2,l3,l4])) (en:Hid (lm.length=N)) (r0:Rd X v0 l0) (r1:Rd X v1 l1) (r2:Rd X v2 l2) (r3:Rd X v3 l3) (r4:Rd X v4 l4) (hl:N<=4194304) :
  Calls prog 61 #[.S (some ⟨X.heap.size,0,none⟩) 5 5] (X.alloc (.cells #[v0,v1,v2,v3,v4] 22)) fun e w'=>∃ p' c',e=.returned (.S p' N c')/\Own X.heap.size w' (.S p' N c') lm/\Bw X w':=by
 have ba:Bw X (X.alloc (.cells #[v0,v1,v2,v3,v4] 22)):=aJ.alloc aA _;refine (xh X.heap.size [v0,v1,v2,v3,v4] [l0,l1,l2,l3,l4] lm N 5 rfl e en _ (Wo aU aU aU aU aU (r0.below ba) (r1.below ba) (r2.below ba) (r3.below ba) (r4.below ba)) hl ab).mono ?_;rintro e w' ⟨p',c',rfl,o,hb⟩;exact ⟨p',c',rfl,Own.mono o aU,ah ba hb⟩
theorem IU (e g x:Nat) (t:Int) (he:e<18446744073709551616) (hg:g<18446744073709551616) (hx:x<18446744073709551616) (p q:Option Addr) (c n d m:Nat) (ss:List aY) (ns:List aD) (en:Hid (ss.length=n)) (em:Hid (ns.length=m)) (w:World) (h:ic w (.S p n c) ss) (hN:kJ w (.S q m d) ns) (hn:n<=1048576) (hm:m<=1048576)
  (nO:Hid (∀ s∈ss,s.2.2.length<=1048576/\∀ e∈s.2.2,bM e.2/\e.2.length<=1048576)) (fI:Hid (∀ nd∈ns,bM nd.path/\nd.path.length<=1048576/\nd.value.length<=1048576/\nd.holders.length<=1048576/\nd.watchers.length<=1048576))
  (IY:Hid (∀ nd∈ns,(∀ i∈nd.holders,0<=i/\i<18446744073709551616)/\∀ i∈nd.watchers,0<=i/\i<18446744073709551616))
  (OQ:Hid (∀ nd∈ns,0<=nd.owner/\nd.owner<18446744073709551616)) (Yf:Hid (∀ nd∈ns,(0<=nd.aB/\nd.aB<18446744073709551616)/\0<=nd.gen/\nd.gen<18446744073709551616)) (Aa:ML w) (R:List Int) (eR:Hid (encR e g x t ss ns=R)) (L:Nat) (eL:Hid (R.length=L)) :
  Calls prog 25 #[cY e g x t (.S p n c) (.S q m d)] w fun r w'=>∃ p' c',r=.returned (.S p' L c')/\Own w.heap.size w' (.S p' L c') R/\Bw w w':=by
 have HR:=ae fun (w':World) (hb:Bw w w')=>ag (h.below hb) (ag (hN.below hb) (Aa.below hb));clear h hN Aa;obtain ⟨B,eB⟩:∃ B,Hid (jY e g x t ss ns=B):=⟨_,cw⟩;obtain ⟨W,hW⟩:=ax (w.alloc (.cells #[.U e,.U g,.U x,.I t,.S p n c,.S q m d] 27));have bW:=ju hW;have Pa:lX W w.heap.size e g x t (.S p n c) (.S q m d):=by rw [hW];simp [lX]
 have Pz:=ae Pa;go_enter func25,ntmps25;go_wp2_with fail;rw [<-hW];clear hW Pa;refine (LJ e g x t p q c n d m ss ns en em _ (aa HR _ bW).1 (aa HR _ bW).2.1 hn hm nO fI IY OQ (aa HR _ bW).2.2 B eB).mono ?_;rintro z9 w1 ⟨rfl,bq⟩;have b1:=ah bW bq;have C1:=ae (Pz.below bq);clear bq bW Pz;cases B with
 | false=>
  have e1:=aa eR;have e2:=aa eL;rw [encR,if_neg (by rw [aa eB];simp)] at e1;subst e1;have e3:L=0:=e2.symm;subst e3;clear e2;go_wp2;go_ret;exact ⟨none,0,rfl,Own.nil _ _,b1⟩
 | true=>
  obtain ⟨i0,i1,i2,i3,i4,i5⟩:=aa C1;have hF:=RS eB nO fI;have HF:=ae hF;have hS:=O1 eB IY OQ Yf;have hRR:R=vN e g x (ss.map kS) (ns.map aF8):=by have:=aa eR;rw [encR,if_pos (aa eB)] at this;rw [<-this,QN];simp
  have Er:=hS.dur;have lens:=Ha (e:=e) (g:=g) (x:=x) Er.w;have hn5:n<=50:=by have:=hS.n1;rw [aa en] at this;exact this
  have hm5:m<=200:=by have:=hS.n2;rw [aa em] at this;exact this
  obtain ⟨sl,TV⟩:=ax (ss.map kS);obtain ⟨nl,je⟩:=ax (ns.map aF8);have J9:Hid (sl.length=n):=by show _=_;rw [TV,List.length_map];exact aa en
  have em2:Hid (nl.length=m):=by show _=_;rw [je,List.length_map];exact aa em
  rw [<-TV,<-je] at Er hRR lens;have EE:Hid (R=cat [vi e,vi g,vi x,rR sM sl,rR km nl]):=hRR;have hL:L<=4194304:=by have h1:=lens.1;rw [<-hRR,aa eL] at h1;omega
  obtain ⟨N0,e0⟩:∃ M,Hid ((vi e).length=M):=⟨_,cw⟩;obtain ⟨N1,e1⟩:∃ M,Hid ((vi g).length=M):=⟨_,cw⟩;obtain ⟨N2,e2⟩:∃ M,Hid ((vi x).length=M):=⟨_,cw⟩;obtain ⟨N3,e3⟩:∃ M,Hid ((rR sM sl).length=M):=⟨_,cw⟩;obtain ⟨N4,e4⟩:∃ M,Hid ((rR km nl).length=M):=⟨_,cw⟩;have zS:N3<=4194304:=by have h1:=lens.2.1;rw [aa e3] at h1;omega
  have hN4:N4<=4194304:=by have h1:=lens.2.2;rw [aa e4] at h1;omega
  have BQ:=ae Er;have vQ:Hid (∀ s∈sl,0<=s.1/\s.1<18446744073709551616):=Er.s;have ESL:=ae TV;have ENL:=ae je;clear hF hS Er lens hRR TV je;have bp8:∀ (vs:Array Value) (w:World),(callFunc 61 vs).run prog w=.ok (.enter 61 vs) w:=fun vs w=>cW;have bp7:∀ (vs:Array Value) (w:World),(callFunc 62 vs).run prog w=.ok (.enter 62 vs) w:=fun vs w=>cW;have bp6:∀ (vs:Array Value) (w:World),(callFunc 70 vs).run prog w=.ok (.enter 70 vs) w:=fun vs w=>cW;have bp4:∀ (vs:Array Value) (w:World),(callFunc 72 vs).run prog w=.ok (.enter 72 vs) w:=fun vs w=>cW;clear bp8 bp7 bp6 bp4;go_wp2_with fail;refine (Nb e g x t p q c n d m ss ns en em _ (aa HR _ b1).1 (aa HR _ b1).2.1 hn hm HF fI IY).mono ?_;rintro z9 w2 ⟨ps,cs,pn,dn,rfl,ow2,cX⟩;have b2:=ah b1 cX;obtain ⟨A1,A2,r1,r2,-⟩:=ow2;rw [<-aa ESL] at r1;rw [<-aa ENL] at r2;clear cX b1 C1 i0 i1 i2 i3 i4 i5;have R2:=ae (ag r1 r2);clear r1 r2;go_wp2_with fail;obtain ⟨W0,dh⟩:=ax (w2.alloc (.cells #[.U e,.U g,.U x,.I 0,.S ps n cs,.S pn m dn] 27));have Qw:=ju dh;have hA6:lX W0 w2.heap.size e g x 0 (.S ps n cs) (.S pn m dn):=by rw [dh];simp [lX]
  obtain ⟨GB,hGB⟩:=ax w2.heap.size;rw [<-dh];rw [<-hGB] at hA6 ⊢;obtain ⟨v0,IV⟩:=ax W0.drew;have BW0:Hid (Bw w v0):=by rw [IV];exact (ah b2 Qw).drew
  have S0:Hid (lX v0 GB e g x 0 (.S ps n cs) (.S pn m dn)):=by rw [IV];exact hA6
  have D0:Hid (ic v0 (.S ps n cs) sl/\kJ v0 (.S pn m dn) nl):=by rw [IV];exact ⟨R2.1.below Qw.drew,R2.2.below Qw.drew⟩
  refine bO (fun w'=>lX w' GB e g x 0 (.S ps n cs) (.S pn m dn)) (by rw [<-IV];exact aa S0) fun hS=>?_;rw [<-IV] at hS ⊢;clear IV dh Qw hA6 hGB R2 b2;refine gy 0 1 3 4 6 7 9 10 hS ?_;refine fe 12 13 hS ?_;refine ry [2] ?_;refine cn (fun KK hK=>?_) ?_;{refine ia (uy e _ he N0 e0) ?_;rintro z9 v1 ⟨pA,cA,rfl,oA,bq⟩;refine ⟨_,rfl,?_⟩;have S1:=ae (S0.below bq);have BW1:=ae (ah BW0 bq);have D1:=ae (ag (D0.1.below bq) (D0.2.below bq));have RA1:=ae oA.rd;refine cg hK (by exact S1) fun hS=>?_;clear hK KK oA bq;refine bH 5 fun KK hK=>?_;refine ia (uy g _ hg N1 e1) ?_;rintro z9 v2 ⟨pB,cB,rfl,oB,cX⟩;refine ⟨_,rfl,?_⟩;have S2:=ae (S1.below cX);have YP:=ae (ah BW1 cX);have D2:=ae (ag (D1.1.below cX) (D1.2.below cX));have RA2:=ae (RA1.below cX);have RB2:=ae oB.rd;refine cg hK (by exact S2) fun hS=>?_;clear hK KK oB cX;refine bH 8 fun KK hK=>?_;refine ia (uy x _ hx N2 e2) ?_;rintro z9 v3 ⟨pC,cC,rfl,oC,de⟩;refine ⟨_,rfl,?_⟩;have S3:=ae (S2.below de);have BW3:=ae (ah YP de);have D3:=ae (ag (D2.1.below de) (D2.2.below de));have RA3:=ae (RA2.below de);have RB3:=ae (RB2.below de);have RC3:=ae oC.rd;refine cg hK (by exact S3) fun hS=>?_;clear hK KK oC de;refine bH 11 fun KK hK=>?_;refine rz (Tc ps cs n sl J9 _ D3.1 ab vQ N3 e3 zS) ?_;rintro z9 v4 ⟨pD,cD,rfl,oD,gL⟩;refine ⟨_,rfl,?_⟩;have S4:=ae (S3.below gL);have BW4:=ae (ah BW3 gL);have D4:=ae (ag (D3.1.below gL) (D3.2.below gL));have RA4:=ae (RA3.below gL);have RB4:=ae (RB3.below gL);have RC4:=ae (RC3.below gL);have RD4:=ae oD.rd;refine cg hK (by exact S4) fun hS=>?_;clear hK KK oD gL;refine bH 14 fun KK hK=>?_;refine rz (Te pn dn m nl em2 _ D4.2 ab sl BQ N4 e4 hN4) ?_;rintro z9 v5 ⟨pE,cE,rfl,oE,ew⟩;refine ⟨_,rfl,?_⟩;have S5:=ae (S4.below ew);have BW5:=ae (ah BW4 ew);have RA5:=ae (RA4.below ew);have RB5:=ae (RB4.below ew);have RC5:=ae (RC4.below ew);have RD5:=ae (RD4.below ew);have RE5:=ae oE.rd;refine cg hK (by exact S5) fun hS=>?_;clear hK KK oE ew;refine bH 15 fun KK hK=>?_;go_simp;obtain ⟨Y,hY⟩:=ax (v5.alloc (.cells #[.S pA N0 cA,.S pB N1 cB,.S pC N2 cC,.S pD N3 cD,.S pE N4 cE] 22));have hbY:=ju hY;have SY:=ae (S5.below hbY);have JJ:=ae (aa7 v5 _ _ _ _ _ _ _ _ _ _ _ L EE eL RA5 RB5 RC5 RD5 RE5 hL);rw [<-hY] at JJ ⊢;refine cg hK (by exact SY) fun hS=>?_;clear hK KK hY hbY;refine bH 16 fun KK hK=>?_;refine ia JJ ?_;rintro z9 Z ⟨pj,cj,rfl,oj,pM⟩;refine ⟨_,rfl,?_⟩;have FI:=ae (ag (Own.mono (B':=w.heap.size) oj BW5.size) (ah (aa BW5) pM));refine cg hK (by exact S5.below pM) fun hS=>?_;clear hK KK oj pM;refine tn 17 hS ?_;refine bu ?_;clear hS;go_wp2;go_ret;exact ⟨pj,cj,rfl,FI⟩};exact AllReadyH.nil
theorem XL {e g x:Nat} (he:e<18446744073709551616) (hg:g<18446744073709551616) (hx:x<18446744073709551616) (hr:∀ nd∈ns,RgN nd):bM (encR e g x t ss ns):=by
 rw [encR];split;{next h=>exact QV ab ab ab (DT h hr) hr}
 {exact fun z hz=>by simp at hz}
theorem Ln (p:Option Addr) (c n:Nat) (l:List Int) (en:Hid (l.length=n)) (w:World) (h:Rd w (.S p n c) l) (hb:Hid (bM l)) (hl:n<=1048576) (Q6:n<=c) (hp:Hid ((p=none/\c=0)\/∃ b o,p=some ⟨b,o,none⟩)) (jd:Hid (∀ b o,p=some ⟨b,o,none⟩->b<w.heap.size)) (Aa:ML w) :
  Calls prog 24 #[.S p n c] w fun r w'=>NQ w.heap.size r w' (Jg (jZ l)) (Jh (jZ l))/\Bw w w':=by
 have HR:=ae fun (w':World) (hb:Bw w w')=>ag (h.below hb) (Aa.below hb);obtain ⟨⟨e,m1,s1⟩,E1⟩:∃ y,Hid (jV (l,false)=y):=⟨_,cw⟩;obtain ⟨⟨g,m2,s2⟩,E2⟩:∃ y,Hid (jV (m1,s1)=y):=⟨_,cw⟩;obtain ⟨⟨x,m3,s3⟩,E3⟩:∃ y,Hid (jV (m2,s2)=y):=⟨_,cw⟩;obtain ⟨⟨ss,m4,s4⟩,E4⟩:∃ y,Hid (lF NS (m3,s3)=y):=⟨_,cw⟩;obtain ⟨⟨ns,m5,s5⟩,E5⟩:∃ y,Hid (lF Hy (m4,s4)=y):=⟨_,cw⟩;have EI:Hid (kr l=((e,g,x),ss,ns,m5,s5)):=by show _=_;rw [kr];simp only [aa E1,aa E2,aa E3,aa E4,aa E5]
 have k1:=jU (l,false) (aa hb) (by dsimp only;rw [aa en];exact hl);rw [aa E1] at k1;obtain ⟨ue,c1,d1,-⟩:=k1;dsimp only at ue c1 d1;rw [aa en] at d1;have k2:=jU (m1,s1) c1 (by dsimp only;omega);rw [aa E2] at k2;obtain ⟨ug,c2,d2,-⟩:=k2;dsimp only at ug c2 d2;have k3:=jU (m2,s2) c2 (by dsimp only;omega);rw [aa E3] at k3;obtain ⟨ux,c3,d3,-⟩:=k3;dsimp only at ux c3 d3;have k4:=CF Hf (m3,s3) c3 (by dsimp only;omega);rw [aa E4] at k4;obtain ⟨Z7,c4,d4,f4⟩:=k4;dsimp only at Z7 c4 d4 f4;have k5:=CF Hn (m4,s4) c4 (by dsimp only;omega);rw [aa E5] at k5;obtain ⟨Tn,c5,d5,f5⟩:=k5;dsimp only at Tn c5 d5 f5;have B1:=ae c1;have B2:=ae c2;have B3:=ae c3;have B4:=ae c4;have g1:m1.length<=1048576:=ab;have g2:m2.length<=1048576:=ab;have g3:m3.length<=1048576:=ab;have g4:m4.length<=1048576:=ab;obtain ⟨KS,eKS⟩:∃ k,Hid (ss.length=k):=⟨_,cw⟩;obtain ⟨KN,eKN⟩:∃ k,Hid (ns.length=k):=⟨_,cw⟩;have hKS:KS<=1048576:=by rw [<-aa eKS];omega
 have hKN:KN<=1048576:=by rw [<-aa eKN];omega
 have Ov:=ae Z7;have Zh:=ae Tn;have re:0<=e/\e<18446744073709551616:=ue;have rg:0<=g/\g<18446744073709551616:=ug;have rx:0<=x/\x<18446744073709551616:=ux;obtain ⟨e,rfl⟩:∃ v:Nat,e=(v:Int):=⟨e.toNat,ab⟩;obtain ⟨g,rfl⟩:∃ v:Nat,g=(v:Int):=⟨g.toNat,ab⟩;obtain ⟨x,rfl⟩:∃ v:Nat,x=(v:Int):=⟨x.toNat,ab⟩;have he:e<18446744073709551616:=ab;have hg:g<18446744073709551616:=ab;have hx:x<18446744073709551616:=ab;clear c1 c2 c3 c4 c5 d1 d2 d3 d4 d5 f4 f5 ue ug ux Z7 Tn re rg rx;obtain ⟨W1,iM⟩:=ax (w.alloc (.cells #[.U 0,.U 0,.U 0,.I 0,.S none 0 0,.S none 0 0] 27));have bW1:=ju iM;have zW1:W1.heap.size=w.heap.size+1:=by rw [iM];simp
 obtain ⟨W,hW⟩:=ax (W1.alloc (.cells #[.S p n c,.bool false] 97));have Uo:=ju hW;have zW:W.heap.size=w.heap.size+2:=by rw [hW];simp;omega
 have bW:=ah bW1 Uo;obtain ⟨R,hR⟩:=ax (w.heap.size+1);have C0:Hid (aq W w.heap.size [.U 0,.U 0,.U 0,.I 0,.S none 0 0,.S none 0 0]):=by
  have:aq W1 w.heap.size [.U 0,.U 0,.U 0,.I 0,.S none 0 0,.S none 0 0]:=by rw [iM];exact aq.alloc w #[.U 0,.U 0,.U 0,.I 0,.S none 0 0,.S none 0 0] _
  exact this.below ab Uo
 have R0:Hid (oY W R l n false):=by
  have hc:aq W R [.S p n c,.bool false]:=by rw [hW,show R=W1.heap.size by omega];exact aq.alloc W1 #[.S p n c,.bool false] _
  refine ⟨en,hc.2,p,c,⟨hc.1 0 _ rfl,hc.1 1 _ rfl⟩,?_,Q6,hp⟩;obtain ⟨p',c',ev,hd⟩:=h.below bW;simp only [Value.slice.injEq] at ev;rcases hd with h0 | ⟨b,o,h1,h2⟩;{exact .inl h0};{refine .inr ⟨b,o,?_,ev.1.trans h1,h2⟩;have:=aa jd b o (ev.1.trans h1);omega}
 have K0:=ae (Kept.refl [aI R] W);have hRW:R<W.heap.size:=ab;have hwR:w.heap.size<R:=ab;go_enter func24,ntmps24;go_wp2_with fail;rw [<-iM,<-hW,<-hR];have HRR:=ae hR;clear iM hW h Aa bW1 Uo zW1 hR;refine (gQ R l n false _ R0 hb hl e m1 s1 E1).mono ?_;rintro z9 y1 ⟨rfl,iV,nw⟩;have C1:=ae (C0.fx nw ab ab);have K1:=ae (K0.trans nw);have R1:=ae iV;have z1:=nw.size;clear nw iV C0 K0 R0;go_wp2_with fail;refine (gQ R m1 m1.length s1 _ R1 B1 g1 g m2 s2 E2).mono ?_;rintro z9 y2 ⟨rfl,mG,yC⟩;have C2:=ae (C1.fx yC ab ab);have K2:=ae (K1.trans yC);have R2:=ae mG;have z2:=yC.size;clear yC mG C1 K1 R1;go_wp2_with fail;refine (gQ R m2 m2.length s2 _ R2 B2 g2 x m3 s3 E3).mono ?_;rintro z9 y3 ⟨rfl,EH,uJ⟩;have C3:=ae (C2.fx uJ ab ab);have K3:=ae (K2.trans uJ);have R3:=ae EH;have z3:=uJ.size;clear uJ EH C2 K2 R2;go_wp2_with fail;refine (aa3 R m3 m3.length s3 _ R3 ab B3 g3 ss m4 s4 E4 KS eKS).mono ?_;rintro z9 y4 ⟨pS,cS,rfl,⟨LS,oS⟩,TI,PZ⟩;have hS4:=ae oS.lt;have OS4:=ae oS;have C4:=ae (C3.fx PZ ab ab);have K4:=ae (K3.trans PZ);have R4:=ae TI;have z4:=PZ.size;clear PZ TI C3 K3 R3 oS;go_wp2_with fail;refine (aa4 R m4 m4.length s4 _ R4 ab B4 g4 ns m5 s5 E5 KN eKN).mono ?_;rintro z9 y5 ⟨pN,cN,rfl,⟨LN,oN⟩,hr5,UZ⟩;have ON5:=ae oN;have C5:=ae (C4.fx UZ ab ab);have K5:=ae (K4.trans UZ);have R5:=ae hr5;have z5:=UZ.size;have OS5:=ae (OS4.fx xE.keep UZ ab);clear UZ hr5 C4 K4 R4 oN OS4;have b5:Bw w y5:=gV bW K5 ab;have FF:Hid (gr W.heap.size y5 pS KS cS pN KN cN ss ns):=by obtain ⟨A1,q1,q2,q3⟩:=OS5.sM (M:=y4.heap.size) (fun a ha=>(hS4.2 a ha).2) (fun b hb=>(hS4.1 b hb).2);obtain ⟨rn,A2,q4,q5⟩:=ON5.no;exact ⟨A1,A2,OS5.se.1,rn,q1,q4,(q2.mono ab).app q5 ab q3⟩
 clear OS5 ON5 hS4;obtain ⟨V,hV⟩:=ax (y5.alloc (.cells #[.U e,.U g,.U x,.I 0,.S pS KS cS,.S pN KN cN] 27));have P5:=ju hV;have CV:=ae (C5.below ab P5);have RV:=ae (R5.below P5 ab);have bV:=ah b5 P5;have FV:=ae (FF.below P5);obtain ⟨sb,RH⟩:=ax y5.heap.size;have CS:Hid (aq V sb [.U e,.U g,.U x,.I 0,.S pS KS cS,.S pN KN cN]):=by show aq _ _ _;rw [hV,RH];exact aq.alloc y5 #[.U e,.U g,.U x,.I 0,.S pS KS cS,.S pN KN cN] _
 have zV:V.heap.size=sb+1:=by rw [hV];simp;omega
 have Hh:w.heap.size<sb:=ab;obtain ⟨-,-,-,-,⟨-,gsh⟩,-⟩:=aa RV;rw [hV] at gsh;have HV:=ae hV;have HSB:=ae RH;clear hV P5 C5 R5 FF RH;cases s5 with
 | true=>
  have hV:=aa HV;have CV2:=CV;have bV2:=bV;rw [hV] at CV2 bV2;have hP:jZ l=none:=by rw [jZ,aa EI];rw [if_neg (fun hh=>by cases hh.1)]
  have HD:Hid (Jg (jZ l)=al3/\Jh (jZ l)=13):=by rw [hP];exact ⟨rfl,rfl⟩
  clear hP;have r0:=CV2.1 0 _ rfl;have r1:=CV2.1 1 _ rfl;have r2:=CV2.1 2 _ rfl;have r3:=CV2.1 3 _ rfl;have r4:=CV2.1 4 _ rfl;have r5:=CV2.1 5 _ rfl;have rf:=CV2.2;clear hV;have BB:=bV2;go_wp2;refine bodyPost_ret (v:=.tuple #[cY 0 0 0 0 (.S none 0 0) (.S none 0 0),.I 13]) (by simp [results,results24,go_sem,r0,r1,r2,r3,r4,r5]) rfl ⟨?_,?_⟩;{rw [HD.1,HD.2];exact ⟨none,0,none,0,rfl,gr.zero _ _⟩};{exact (((((BB.setCell aU _).setCell aU _).setCell aU _).setCell aU _).setCell aU _).setCell aU _}
 | false=>
  obtain ⟨RL,eRL⟩:∃ L,Hid (encR e g x 0 ss ns=L):=⟨_,cw⟩;obtain ⟨L,eL⟩:∃ k,Hid (RL.length=k):=⟨_,cw⟩;have nO:Hid (∀ s∈ss,s.2.2.length<=1048576/\∀ e∈s.2.2,bM e.2/\e.2.length<=1048576):=fun s hs=>by rw [(aa Ov s hs).2];exact ⟨Nat.zero_le _,fun e he=>by simp at he⟩
  have fI:Hid (∀ nd∈ns,bM nd.path/\nd.path.length<=1048576/\nd.value.length<=1048576/\nd.holders.length<=1048576/\nd.watchers.length<=1048576):=fun nd aV=>by have:=aa Zh nd aV;exact ⟨this.by0,this.l0,this.l1,this.l4,by rw [this.l7];exact Nat.zero_le _⟩
  have IY:Hid (∀ nd∈ns,(∀ i∈nd.holders,0<=i/\i<18446744073709551616)/\∀ i∈nd.watchers,0<=i/\i<18446744073709551616):=fun nd aV=>⟨(aa Zh nd aV).ho,fun i hi=>by rw [(aa Zh nd aV).l7] at hi;simp at hi⟩;have OQ:Hid (∀ nd∈ns,0<=nd.owner/\nd.owner<18446744073709551616):=fun nd aV=>(aa Zh nd aV).ow
  have Yf:Hid (∀ nd∈ns,(0<=nd.aB/\nd.aB<18446744073709551616)/\0<=nd.gen/\nd.gen<18446744073709551616):=fun nd aV=>⟨(aa Zh nd aV).ep,(aa Zh nd aV).ge⟩
  go_wp2_with fail;rw [<-aa HV];have RRV:Hid (ic V (.S pS KS cS) ss/\kJ V (.S pN KN cN) ns):=by obtain ⟨-,-,q1,q2,-⟩:=aa FV;exact ⟨q1,q2⟩
  refine (IU e g x 0 he hg hx pS pN cS KS cN KN ss ns eKS eKN _ RRV.1 RRV.2 hKS hKN nO fI IY OQ Yf (aa HR _ bV).2 RL eRL L eL).mono ?_;rintro z9 u1 ⟨pE,cE,rfl,oE,ur⟩;have b6:=ah bV ur;have C6:=ae (CV.below ab ur);have S6:=ae (CS.below ab ur);have F6:=ae (FV.below ur);have RE:=ae oE.rd;have zu1:=ur.size;clear oE ur gsh;go_wp2_with fail;refine (mA pE p cE c L n RL l eL en _ (aa RE) (aa HR _ b6).1 (by rw [<-aa eRL];exact XL he hg hx (aa Zh)) (aa hb)).mono ?_;rintro z9 u2 ⟨rfl,Tu⟩;have b7:=ah b6 Tu;have C7:=ae (C6.below ab Tu);have S7:=ae (S6.below ab Tu);have F7:=ae (F6.below Tu);have zu2:=Tu.size;clear Tu;by_cases XD:RL=l;{
 have hd:decide (RL=l)=true:=by simpa using XD
 have hP:jZ l=some (((e:Int),(g:Int),(x:Int)),ss,ns):=by rw [jZ,aa EI];rw [if_pos ⟨rfl,eRL.trans XD⟩]
 have HD:Hid (Jg (jZ l)=⟨e,g,x,0,ss,ns⟩/\Jh (jZ l)=0):=by rw [hP];exact ⟨rfl,rfl⟩
 rw [hd];have r0:=C7.1 0 _ rfl;have r1:=C7.1 1 _ rfl;have r2:=C7.1 2 _ rfl;have r3:=C7.1 3 _ rfl;have r4:=C7.1 4 _ rfl;have r5:=C7.1 5 _ rfl;have rf:=C7.2;have k0:=S7.1 0 _ rfl;have k1:=S7.1 1 _ rfl;have k2:=S7.1 2 _ rfl;have k3:=S7.1 3 _ rfl;have k4:=S7.1 4 _ rfl;have k5:=S7.1 5 _ rfl;have q1:¬ w.heap.size=sb:=ab;have q2:¬ sb=w.heap.size:=ab;clear hP hd XD;rw [<-aa HSB];go_wp2;obtain ⟨Z,hZ⟩:=ax ((((((u2.setCell ⟨w.heap.size,0,none⟩ (.U e)).setCell ⟨w.heap.size,1,none⟩ (.U g)).setCell ⟨w.heap.size,2,none⟩ (.U x)).setCell ⟨w.heap.size,3,none⟩ (.I 0)).setCell ⟨w.heap.size,4,none⟩ (.S pS KS cS)).setCell ⟨w.heap.size,5,none⟩ (.S pN KN cN));have Xp:∀ z,z≠w.heap.size->Z.heap[z]?=u2.heap[z]?:=fun z hz=>by
  rw [hZ]
  iterate 6 rw [dF _ _ _ _ hz]
 refine bodyPost_ret (v:=.tuple #[cY e g x 0 (.S pS KS cS) (.S pN KN cN),.I 0]) (by simp [results,results24,go_sem,r0,r1,r2,r3,r4,r5]) rfl ⟨?_,?_⟩;{rw [<-hZ,HD.1,HD.2];have f:=(F7.keep (w':=Z) (fun z hz _=>Xp z ab)).mono (B':=w.heap.size) ab;rw [<-aa eKS,<-aa eKN] at f ⊢;exact ⟨pS,cS,pN,cN,rfl,f⟩};{exact (((((b7.setCell aU _).setCell aU _).setCell aU _).setCell aU _).setCell aU _).setCell aU _}};{
 have hd:decide (RL=l)=false:=by simpa using XD
 rw [hd];have hP:jZ l=none:=by rw [jZ,aa EI];rw [if_neg (fun hh=>XD (eRL.symm.trans hh.2))]
 have HD:Hid (Jg (jZ l)=al3/\Jh (jZ l)=13):=by rw [hP];exact ⟨rfl,rfl⟩
 clear hP;have r0:=C7.1 0 _ rfl;have r1:=C7.1 1 _ rfl;have r2:=C7.1 2 _ rfl;have r3:=C7.1 3 _ rfl;have r4:=C7.1 4 _ rfl;have r5:=C7.1 5 _ rfl;have rf:=C7.2;have BB:=b7;go_wp2;refine bodyPost_ret (v:=.tuple #[cY 0 0 0 0 (.S none 0 0) (.S none 0 0),.I 13]) (by simp [results,results24,go_sem,r0,r1,r2,r3,r4,r5]) rfl ⟨?_,?_⟩;{rw [HD.1,HD.2];exact ⟨none,0,none,0,rfl,gr.zero _ _⟩};{exact (((((BB.setCell aU _).setCell aU _).setCell aU _).setCell aU _).setCell aU _).setCell aU _}}
theorem fQ {α:Type} {el:World->α->List Value->Prop} {P:Program} {w:World} {ops:Array Oper} {o:Oper} {a:Act} {K:Act->World->Prop} {Q:Exit->Act->World->Prop} {E:Prop} (jK:o.guard=none) (s x:Operand) (t:TypeId)
  (ho:o.op=.call { callee:=.builtin .append,args:=#[s,x],argTypes:=#[t,t] })
  (B:Nat) (e:TypeId) (i:TypeInfo) (z:Value) (size bytes:Nat) (ht:P.underlying t=some (.slice e)) (hi:P.info? e=some i) (hz:i.zero=some z)
  (sa:i.size=size) (fI:i.bytes=bytes) (Tj:z.cells.size=size) (il:0<size)
  (v:Value) (xs:List α) (k:Nat) (ek:Hid (xs.length=k)) (hs:a.eval s=v) (br:RT el e size B w v xs) (g:Nat) (y:α) (cs:List Value) (hx:a.eval x=.S (some ⟨g,0,none⟩) 1 1) (pL:el w y cs) (Bo:cs.length=size) (eh:∀ j u,cs[j]?=some u->w.cell? ⟨g,j,none⟩=some u) (h1:∀ u∈cs,u.oneCell'=true) (mr:∀ w',Fr [e] w w'->∀ x c,el w x c->el w' x c)
  (hk:k<4194304) (hbt:bytes<=256) (hB:B<=w.heap.size)
  (h:∀ p' c' w',RT el e size B w' (.S p' (k+1) c') (xs++[y])->w.grownBy w' v.ownBlock->Fr [e] w w'->(∀ g,(Value.slice p' (k+1) c').ownBlock=some g->v.ownBlock=some g\/w.heap.size<=g)->K (a.put o.dst (.S p' (k+1) c')) w') :
  if Region.wanted o (yielded ops a.tmps)=true then Oper.wp P o a w K Q else E:=by
 have htt:=br.nJ;obtain ⟨rs,g1,g2,g3,g4⟩:=br;rw [aa ek] at g3;refine jB jK s x t ho B e i z size bytes ht hi hz sa fI Tj il v k rs.flatten hs g3 g 1 1 cs hx (by rw [Bo,Nat.one_mul]) eh h1 jC (by have:=Nat.mul_le_mul (show k+1<=4194304 by omega) hbt;omega) hB ?_
 intro v' w' dW hg Ly;have hf:Fr [e] w w':=Fr.grown hg fun b hb=>by obtain ⟨cur,hc⟩:=htt b hb;exact ⟨cur,_,hc,aU⟩
 have sn:RT el e size B w' v' (xs++[y]):=RT.snoc g1 g2 g4 (mr w' hf) pL Bo (by rw [aa ek];exact dW);obtain ⟨p',c',rfl,-⟩:=RT.form sn;rw [List.length_append,aa ek] at sn Ly ⊢;exact h p' c' w' sn hg hf Ly
theorem qT (nd:aD) (p0 p1 p4 p7:Option Addr) (c0 c1 c4 c7 n0 n1 n4 n7:Nat) (e0:Hid (nd.path.length=n0)) (e1:Hid (nd.value.length=n1)) (e4:Hid (nd.holders.length=n4)) (e7:Hid (nd.watchers.length=n7)) (w:World) (h0:Rd w (.S p0 n0 c0) nd.path) (h1:Rd w (.S p1 n1 c1) nd.value) (h4:nH w (.S p4 n4 c4) nd.holders) (h7:nH w (.S p7 n7 c7) nd.watchers) (l0:n0<=1048576) (l1:n1<=1048576) (l4:n4<=1048576) (l7:n7<=1048576) :
  Calls prog 112 #[JS (.S p0 n0 c0) (.S p1 n1 c1) nd.owner nd.mode (.S p4 n4 c4) nd.aB nd.gen (.S p7 n7 c7)] w fun r w'=>∃ q0 d0 q1 d1 q4 d4 q7 d7,r=.returned (JS (.S q0 n0 d0) (.S q1 n1 d1) nd.owner nd.mode (.S q4 n4 d4) nd.aB nd.gen (.S q7 n7 d7))/\TB w' (.S q0 n0 d0) nd.path/\TB w' (.S q1 n1 d1) nd.value/\TU w.heap.size w' (.S q4 n4 d4) nd.holders/\TU w.heap.size w' (.S q7 n7 d7) nd.watchers/\Bw w w':=by
 have HR:=ae fun (w':World) (hb:Bw w w')=>ag (h0.below hb) (ag (h1.below hb) (ag (h4.below hb) (h7.below hb)));obtain ⟨W0,dh,b0,z0,C0,T0⟩:=aj w #[.S p0 n0 c0,.S p1 n1 c1,.U nd.owner,.I nd.mode,.S p4 n4 c4,.U nd.aB,.U nd.gen,.S p7 n7 c7] 38;obtain ⟨W1,iM,b1,z1,C1,T1⟩:=aj W0 #[.S none 0 0,.S none 0 0,.U 0,.I 0,.S none 0 0,.U 0,.U 0,.S none 0 0] 38;rw [z0] at C1 T1 z1;have B0:=ae (ah b0 b1);have C0:=ae (C0.below ab b1);have T0:Hid (∃ cur,W1.heap[w.heap.size]?=some (.cells cur 38)):=⟨_,(b1.block _ ab).trans T0⟩;have R0:=ae C1;have TR:Hid (∃ cur,W1.heap[w.heap.size+1]?=some (.cells cur 38)):=⟨_,T1⟩;have Z0:=z1;go_enter func112,ntmps112;have k0:=C0.1 0 _ rfl;go_wp2_with fail;rw [<-dh,<-iM];refine (fT p0 c0 n0 nd.path e0 W1 (aa HR W1 B0).1 ab).mono ?_;rintro r w1 ⟨q0,d0,rfl,oj,pM⟩;have CY:=C0.below ab pM;have TY:∃ cur,w1.heap[w.heap.size]?=some (.cells cur 38):=T0.imp fun cur hc=>(pM.block _ ab).trans hc;have RY:=R0.below ab pM;obtain ⟨X,hX⟩:=ax (w1.setCell ⟨w.heap.size,0,none⟩ (.S q0 n0 d0));have Xv:∃ cur,w1.heap[w.heap.size+1]?=some (.cells cur 38):=TR.imp fun cur hc=>(pM.block _ ab).trans hc;have TR:Hid (∃ cur,X.heap[w.heap.size+1]?=some (.cells cur 38)):=by rw [hX];exact ae (Xv.imp fun cur hc=>(dF _ _ _ _ (by show w.heap.size+1≠w.heap.size;omega)).trans hc)
 have ts:=bf (j:=0) (u:=.S q0 n0 d0) TY;rw [<-hX] at ts;have kj:=CY.1 0 _ rfl;have kf:=CY.2 0;have zj:=pM.size;have Z1:w.heap.size+1+1<=X.heap.size:=by rw [hX];simp;omega
 have C1:Hid (aq X w.heap.size [.S q0 n0 d0,.S p1 n1 c1,.U nd.owner,.I nd.mode,.S p4 n4 c4,.U nd.aB,.U nd.gen,.S p7 n7 c7]):=by rw [hX];exact ae (CY.dI 0 aU _)
 have T1:=ae ts.1;have R1:Hid (aq X (w.heap.size+1) [.S none 0 0,.S none 0 0,.U 0,.I 0,.S none 0 0,.U 0,.U 0,.S none 0 0]):=by rw [hX];exact ae (RY.rj (a:=⟨w.heap.size,0,none⟩) (by show w.heap.size+1≠w.heap.size;omega) _)
 have B1:Hid (Bw w X):=by rw [hX];exact ae ((ah (aa B0) pM).setCell (p:=⟨w.heap.size,0,none⟩) aA _)
 have t0:=ae (oj.tb.fr ts.2);obtain ⟨X1,hN⟩:=ax X;rw [<-hN] at C1 T1 R1 B1 Z1 TR hX t0;have k1:=C1.1 1 _ rfl;rw [hX] at k1;go_wp2_with fail;rw [<-hX];refine (fT p1 c1 n1 nd.value e1 X1 (aa HR X1 B1).2.1 ab).mono ?_;rintro r w2 ⟨q1,d1,rfl,oj,pM⟩;have CY:=C1.below ab pM;have TY:∃ cur,w2.heap[w.heap.size]?=some (.cells cur 38):=T1.imp fun cur hc=>(pM.block _ ab).trans hc;have RY:=R1.below ab pM;obtain ⟨X,hX⟩:=ax (w2.setCell ⟨w.heap.size,1,none⟩ (.S q1 n1 d1));have Xv:∃ cur,w2.heap[w.heap.size+1]?=some (.cells cur 38):=TR.imp fun cur hc=>(pM.block _ ab).trans hc;have TR:Hid (∃ cur,X.heap[w.heap.size+1]?=some (.cells cur 38)):=by rw [hX];exact ae (Xv.imp fun cur hc=>(dF _ _ _ _ (by show w.heap.size+1≠w.heap.size;omega)).trans hc)
 have ts:=bf (j:=1) (u:=.S q1 n1 d1) TY;rw [<-hX] at ts;have kj:=CY.1 1 _ rfl;have kf:=CY.2 1;have zj:=pM.size;have Z2:w.heap.size+1+1<=X.heap.size:=by rw [hX];simp;omega
 have C2:Hid (aq X w.heap.size [.S q0 n0 d0,.S q1 n1 d1,.U nd.owner,.I nd.mode,.S p4 n4 c4,.U nd.aB,.U nd.gen,.S p7 n7 c7]):=by rw [hX];exact ae (CY.dI 1 aU _)
 have T2:=ae ts.1;have R2:Hid (aq X (w.heap.size+1) [.S none 0 0,.S none 0 0,.U 0,.I 0,.S none 0 0,.U 0,.U 0,.S none 0 0]):=by rw [hX];exact ae (RY.rj (a:=⟨w.heap.size,1,none⟩) (by show w.heap.size+1≠w.heap.size;omega) _)
 have B2:Hid (Bw w X):=by rw [hX];exact ae ((ah (aa B1) pM).setCell (p:=⟨w.heap.size,1,none⟩) aA _)
 have t0:=ae (((t0.fr (al pM)).fr ts.2));have t1:=ae (oj.tb.fr ts.2);obtain ⟨X2,hN⟩:=ax X;rw [<-hN] at C2 T2 R2 B2 Z2 TR hX t0 t1;have k4:=C2.1 4 _ rfl;rw [hX] at k4;go_wp2_with fail;rw [<-hX];refine (Hd p4 c4 n4 nd.holders e4 X2 (aa HR X2 B2).2.2.1 ab).mono ?_;rintro r w3 ⟨q4,d4,rfl,oj,pM⟩;have CY:=C2.below ab pM;have TY:∃ cur,w3.heap[w.heap.size]?=some (.cells cur 38):=T2.imp fun cur hc=>(pM.block _ ab).trans hc;have RY:=R2.below ab pM;obtain ⟨X,hX⟩:=ax (w3.setCell ⟨w.heap.size,4,none⟩ (.S q4 n4 d4));have Xv:∃ cur,w3.heap[w.heap.size+1]?=some (.cells cur 38):=TR.imp fun cur hc=>(pM.block _ ab).trans hc;have TR:Hid (∃ cur,X.heap[w.heap.size+1]?=some (.cells cur 38)):=by rw [hX];exact ae (Xv.imp fun cur hc=>(dF _ _ _ _ (by show w.heap.size+1≠w.heap.size;omega)).trans hc)
 have ts:=bf (j:=4) (u:=.S q4 n4 d4) TY;rw [<-hX] at ts;have kj:=CY.1 4 _ rfl;have kf:=CY.2 4;have zj:=pM.size;have Z3:w.heap.size+1+1<=X.heap.size:=by rw [hX];simp;omega
 have C3:Hid (aq X w.heap.size [.S q0 n0 d0,.S q1 n1 d1,.U nd.owner,.I nd.mode,.S q4 n4 d4,.U nd.aB,.U nd.gen,.S p7 n7 c7]):=by rw [hX];exact ae (CY.dI 4 aU _)
 have T3:=ae ts.1;have R3:Hid (aq X (w.heap.size+1) [.S none 0 0,.S none 0 0,.U 0,.I 0,.S none 0 0,.U 0,.U 0,.S none 0 0]):=by rw [hX];exact ae (RY.rj (a:=⟨w.heap.size,4,none⟩) (by show w.heap.size+1≠w.heap.size;omega) _)
 have B3:Hid (Bw w X):=by rw [hX];exact ae ((ah (aa B2) pM).setCell (p:=⟨w.heap.size,4,none⟩) aA _)
 have t0:=ae (((t0.fr (al pM)).fr ts.2));have t1:=ae (((t1.fr (al pM)).fr ts.2));have t4:=ae ((oj.tu (B':=w.heap.size) ab).fr ts.2);obtain ⟨X3,hN⟩:=ax X;rw [<-hN] at C3 T3 R3 B3 Z3 TR hX t0 t1 t4;have k7:=C3.1 7 _ rfl;rw [hX] at k7;go_wp2_with fail;rw [<-hX];refine (Hd p7 c7 n7 nd.watchers e7 X3 (aa HR X3 B3).2.2.2 ab).mono ?_;rintro r w4 ⟨q7,d7,rfl,oj,pM⟩;have CY:=C3.below ab pM;have TY:∃ cur,w4.heap[w.heap.size]?=some (.cells cur 38):=T3.imp fun cur hc=>(pM.block _ ab).trans hc;have RY:=R3.below ab pM;obtain ⟨X,hX⟩:=ax (w4.setCell ⟨w.heap.size,7,none⟩ (.S q7 n7 d7));have Xv:∃ cur,w4.heap[w.heap.size+1]?=some (.cells cur 38):=TR.imp fun cur hc=>(pM.block _ ab).trans hc;have TR:Hid (∃ cur,X.heap[w.heap.size+1]?=some (.cells cur 38)):=by rw [hX];exact ae (Xv.imp fun cur hc=>(dF _ _ _ _ (by show w.heap.size+1≠w.heap.size;omega)).trans hc)
 have ts:=bf (j:=7) (u:=.S q7 n7 d7) TY;rw [<-hX] at ts;have kj:=CY.1 7 _ rfl;have kf:=CY.2 7;have zj:=pM.size;have Z4:w.heap.size+1+1<=X.heap.size:=by rw [hX];simp;omega
 have C4:Hid (aq X w.heap.size [.S q0 n0 d0,.S q1 n1 d1,.U nd.owner,.I nd.mode,.S q4 n4 d4,.U nd.aB,.U nd.gen,.S q7 n7 d7]):=by rw [hX];exact ae (CY.dI 7 aU _)
 have T4:=ae ts.1;have R4:Hid (aq X (w.heap.size+1) [.S none 0 0,.S none 0 0,.U 0,.I 0,.S none 0 0,.U 0,.U 0,.S none 0 0]):=by rw [hX];exact ae (RY.rj (a:=⟨w.heap.size,7,none⟩) (by show w.heap.size+1≠w.heap.size;omega) _)
 have B4:Hid (Bw w X):=by rw [hX];exact ae ((ah (aa B3) pM).setCell (p:=⟨w.heap.size,7,none⟩) aA _)
 have t0:=ae (((t0.fr (al pM)).fr ts.2));have t1:=ae (((t1.fr (al pM)).fr ts.2));have t4:=ae (((t4.fr (al pM)).fr ts.2));have t7:=ae ((oj.tu (B':=w.heap.size) ab).fr ts.2);obtain ⟨X4,hN⟩:=ax X;rw [<-hN] at C4 T4 R4 B4 Z4 TR hX t0 t1 t4 t7;obtain ⟨s0,s1,s2,s3,s4,s5,s6,s7,sf⟩:_/\_/\_/\_/\_/\_/\_/\_/\_:=⟨C4.1 0 _ rfl,C4.1 1 _ rfl,C4.1 2 _ rfl,C4.1 3 _ rfl,C4.1 4 _ rfl,C4.1 5 _ rfl,C4.1 6 _ rfl,C4.1 7 _ rfl,C4.2⟩;obtain ⟨r0,r1,r2,r3,r4,r5,r6,r7,rf⟩:_/\_/\_/\_/\_/\_/\_/\_/\_:=⟨R4.1 0 _ rfl,R4.1 1 _ rfl,R4.1 2 _ rfl,R4.1 3 _ rfl,R4.1 4 _ rfl,R4.1 5 _ rfl,R4.1 6 _ rfl,R4.1 7 _ rfl,R4.2⟩;rw [hX] at s0 s1 s2 s3 s4 s5 s6 s7 sf r0 r1 r2 r3 r4 r5 r6 r7 rf;go_wp2;rw [<-hX] at *;have bF:=aO X4 (w.heap.size+1) (.S q0 n0 d0) (.S q1 n1 d1) (.U nd.owner) (.I nd.mode) (.S q4 n4 d4) (.U nd.aB) (.U nd.gen) (.S q7 n7 d7);obtain ⟨-,fF⟩:=rI (v0:=.S q0 n0 d0) (v1:=.S q1 n1 d1) (v2:=.U nd.owner) (v3:=.I nd.mode) (v4:=.S q4 n4 d4) (v5:=.U nd.aB) (v6:=.U nd.gen) (v7:=.S q7 n7 d7) TR;refine bodyPost_ret (v:=JS (.S q0 n0 d0) (.S q1 n1 d1) nd.owner nd.mode (.S q4 n4 d4) nd.aB nd.gen (.S q7 n7 d7)) (by simp [results,results112,go_sem,r0,r1,r2,r3,r4,r5,r6,r7]) rfl ?_;exact ⟨q0,d0,q1,d1,q4,d4,q7,d7,rfl,t0.fr fF,t1.fr fF,t4.fr fF,t7.fr fF,B4.trans (bF.mono ab)⟩
end Go.Proofs.YtcfcafeciggjeaaGreatDoor
