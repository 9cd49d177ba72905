import Derived.Test.YtcfcafeciggjeaaGreatDoorK4
import Derived.Test.YtcfcafeciggjeaaGreatDoorK5
namespace Go.Proofs.YtcfcafeciggjeaaGreatDoor
set_option maxHeartbeats 4000000
set_option linter.all false
set_option maxRecDepth 100000
open Go.ChangeShapes Go.WideShapes Go.ChangeAt Go.RowKit Go.Proofs.Tryz
variable {f:Nat->Bool} {v:Value}
theorem Sd {t:List Int}:∀ n∈du (47:Int) t,n.length<=t.length:=by
 induction t with
 | nil=>intro n hn;simp [du] at hn;subst hn;simp
 | cons x l ih=>
  intro n hn;rw [du] at hn;split at hn;{rcases List.mem_cons.1 hn with rfl | hn;{simp};{have:=ih n hn;simp;omega}};{
 cases hc:du 47 l with
 | nil=>
  rw [hc] at hn;simp at hn;subst hn;simp
 | cons m ms=>
  rw [hc] at hn ih;rcases List.mem_cons.1 hn with rfl | hn;{have:=ih m aU;simp;omega};{have:=ih n (by simp [hn]);simp;omega}}
theorem Fx (p:Option Addr) (c n:Nat) (l:List Int) (en:Hid (l.length=n)) (w:World) (h:Rd w (.S p n c) l) (hb:Hid (bM l)) (hl:n<=1048576) (hcn:n<=c) (Bn:c<=maxLen) (hm:∃ m,w.cell? ⟨2,0,none⟩=some (.I m)) (B:Bool) (eB:Hid (vp l=B)) :
  Calls prog 158 #[.S p n c] w fun e w'=>e=.returned (.bool B)/\Below w.heap.size w w':=by
 have HR:=ae h;have HM:=ae hm;clear h hm;by_cases RI:n=0;{
 subst RI;have eF:B=false:=by
  rw [<-aa eB,List.length_eq_zero_iff.1 (aa en)]
  rfl
 subst eF;go_enter func158,ntmps158;go_wp2;go_ret;exact ⟨rfl,Below.refl _ _⟩};have VO:((n:Int)==0)=false:=by simp [RI]
 obtain ⟨b,o,rfl,-,hc⟩:=HR.at (by rw [aa en];omega);obtain ⟨x,t,el⟩:∃ x t,l=x::t:=by
  cases l with
  | nil=>have:=aa en;simp at this;omega
  | cons x t=>exact ⟨x,t,rfl⟩
 have hx:w.cell? ⟨b,o,none⟩=some (.int .u8 x):=by have:=hc 0 (by rw [aa en];omega);rw [el] at this;exact this
 by_cases kL:x=47;{
 subst kL;have ent:t.length=n-1:=by have:=aa en;rw [el] at this;simp at this;omega
 have Tx:∀ i,i<n-1->w.cell? ⟨b,o+1+i,none⟩=some (.int .u8 (t.getD i 0)):=fun i hi=>by have:=hc (1+i) (by rw [aa en];omega);rw [el,<-Nat.add_assoc] at this;rw [this];simp [List.getD,Nat.add_comm 1 i]
 have hbt:bM t:=fun z hz=>aa hb z (by rw [el];simp [hz]);obtain ⟨K,eK⟩:=aH ((du 47 t).length);have dz:B=(decide (K<=8)&&(du 47 t).all iQ):=by rw [<-aa eB,el,vp,st,eK];simp
 have Hq:K<=n+1:=by have h1:=(vZ hbt).2;have h2:=Lib.count_le (Lib.bytesOf t) (Lib.bytesOf [47]);rw [Lib.bytesOf_length,ent] at h2;omega
 obtain ⟨N,eN⟩:=aH (n-1);obtain ⟨C,eC⟩:=aH (c-1);have JY:∀ (o':Nat) (w':World),(N=0\/o'=o+1)->Below w.heap.size w w'->w'.cell? ⟨w.heap.size,0,none⟩=some (.int .u8 47)->Calls prog 175 #[.S (some ⟨b,o',none⟩) N C,.S (some ⟨w.heap.size,0,none⟩) 1 1] w' fun e w''=>e=.returned (.S (some ⟨w'.heap.size,0,none⟩) K K)/\(∀ j nm,(du 47 t)[j]?=some nm->∃ p' c',w''.cell? ⟨w'.heap.size,j,none⟩=some (.S p' nm.length c')/\Rd w'' (.S p' nm.length c') nm)/\Below w'.heap.size w' w'':=by intro o' w' JZ cR hg;refine Ix b o' N C t (by rw [ent,eN]) w.heap.size w' (fun i hi=>?_) hg hbt ab ab ab ?_ K eK;{rcases JZ with h0 | rfl;{omega};{exact (cR.cell (p:=⟨b,o+1+i,none⟩) (World.block_lt_of_cell? w _ (Tx i ab))).trans (Tx i ab)}};{obtain ⟨m,hm⟩:=aa HM;exact ⟨m,(cR.cell (p:=⟨2,0,none⟩) (World.block_lt_of_cell? w _ hm)).trans hm⟩}
 have HSP:=ae JY;have lr:=ae dz;have EK:=ae eK;have g1:=dE 1 n;have g2:=dE 1 c;have g3:=vj n c;have HN:=ae (ag eN eC);clear JY dz Tx hbt ent eK hc eN eC;have bA:Below w.heap.size w (w.alloc (.cells #[.int .u8 47] 5)):=aJ.alloc aA _;have FN:∀ o',(N=0\/o'=o+1)->Calls prog 175 #[.S (some ⟨b,o',none⟩) N C,.S (some ⟨w.heap.size,0,none⟩) 1 1] (w.alloc (.cells #[.int .u8 47] 5)) fun e w''=>e=.returned (.S (some ⟨w.heap.size+1,0,none⟩) K K)/\(∀ j nm,(du 47 t)[j]?=some nm->∃ p' c',w''.cell? ⟨w.heap.size+1,j,none⟩=some (.S p' nm.length c')/\Rd w'' (.S p' nm.length c') nm)/\Below w.heap.size w w'':=by intro o' JZ;have e:(w.alloc (.cells #[.int .u8 47] 5)).heap.size=w.heap.size+1:=aU;have:=aa HSP o' _ JZ bA aU;rw [e] at this;refine this.mono ?_;rintro e1 w1 ⟨rfl,h1,h2⟩;refine ⟨rfl,h1,?_⟩;rw [<-e] at h2;exact ah bA h2
 have HF:=ae FN;clear FN bA;have hlen:∀ nm∈du (47:Int) t,nm.length<=2097152:=fun nm qL=>by have h1:=Sd nm qL;have h2:=aa en;rw [el] at h2;simp at h2;omega
 have HL:=ae hlen;clear hlen el;by_cases kH:c=1;{
 subst kH;obtain rfl:n=1:=ab;go_enter func158,ntmps158;go_wp2_with fail;have I9:(0:Nat)=N:=by have:=HN.1;omega
 have Ry:(0:Nat)=C:=by have:=HN.2;omega
 have JY:=aa HF o (.inl I9.symm);rw [<-I9,<-Ry] at JY;clear I9 Ry;refine JY.mono ?_;rintro e w2 ⟨rfl,Q5,cX⟩;have HP:=ae Q5;clear JY Q5;by_cases FL:K<=8;{
 have VU:¬ (8:Int)<(K:Int):=ab;go_wp2
 go_loopw [24] (fun i wr=>∃ k:Nat,k<=K/\i=.I k/\Hid (∀ j nm,j<k->(du 47 t)[j]?=some nm->iQ nm=true)/\Below w2.heap.size w2 wr) (fun i _=>K-(intOf i).toNat)
 case atStart=>exact ⟨0,Nat.zero_le _,rfl,(fun j nm hj=>ab),Below.refl _ _⟩
 case round =>(
 obtain ⟨k,hk,rfl,iJ,aR⟩:=hrel;have BB:=ah cX aR;by_cases bj:k<K;{
 have da:=aT k K;obtain ⟨nm,qL⟩:∃ nm,(du 47 t)[k]?=some nm:=⟨_,aK (by rw [aa EK];exact bj)⟩;obtain ⟨p',c',Bo,DG⟩:=aa HP k nm qL;have P3:=af Bo aR;have I7:=DG.below aR;have IZ:=aa HL nm (aF qL);obtain ⟨nl,je⟩:=aH nm.length;rw [je] at P3 I7 IZ;have ENL:=ae je;have HNM:=ae qL;clear Bo DG je qL;obtain ⟨R,eR⟩:=aH (iQ nm);have ER:=ae eR;clear eR;go_wp2_with fail;refine (pT p' c' nl nm ENL _ I7 IZ R ER).mono ?_;rintro e w3 ⟨rfl,de⟩;have b3:=ah aR de;cases R with
 | true=>
  have zb:Hid (∀ j nm,j<k+1->(du 47 t)[j]?=some nm->iQ nm=true):=fun j nm' hj Tr=>by by_cases e:j=k;{subst e;have e2:=HNM.symm.trans Tr;simp at e2;rw [<-e2];exact aa ER};{exact iJ j nm' ab Tr}
  clear P3 I7 de aR BB;go_wp2;go_roundw
  case rel=>exact ⟨k+1,ab,by go_num,zb,b3⟩
  exact dC
 | false=>
  have eF:B=false:=by
   rw [aa lr];have:(du 47 t).all iQ=false:=by rw [List.all_eq_false];exact ⟨nm,aF (aa HNM),by simp [aa ER]⟩
   rw [this];simp
  subst eF;clear P3 I7;go_wp2;go_ret;exact ⟨rfl,ah BB de⟩};{
 have da:=dy k K;have eT:B=true:=by
  rw [aa lr];have:(du 47 t).all iQ=true:=by rw [List.all_eq_true];intro nm qL;obtain ⟨i,hi,rfl⟩:=List.getElem_of_mem qL;exact aa iJ i _ (by rw [aa EK] at hi;omega) (aK hi)
  simp [this,FL]
 subst eT;go_wp2;go_ret;exact ⟨rfl,BB⟩})}
 {
 have VU:=ja 8 K;have eF:B=false:=by rw [aa lr];simp [FL]
 subst eF;go_wp2;go_ret;exact ⟨rfl,cX⟩}};{
 have bV6:¬ (c:Int)=1:=ab;go_enter func158,ntmps158;go_wp2_with fail;have JY:=aa HF (o+1) (.inr rfl);rw [<-HN.1,<-HN.2] at JY;refine JY.mono ?_;rintro e w2 ⟨rfl,Q5,cX⟩;have HP:=ae Q5;clear JY Q5;by_cases FL:K<=8;{
 have VU:¬ (8:Int)<(K:Int):=ab;go_wp2
 go_loopw [24] (fun i wr=>∃ k:Nat,k<=K/\i=.I k/\Hid (∀ j nm,j<k->(du 47 t)[j]?=some nm->iQ nm=true)/\Below w2.heap.size w2 wr) (fun i _=>K-(intOf i).toNat)
 case atStart=>exact ⟨0,Nat.zero_le _,rfl,(fun j nm hj=>ab),Below.refl _ _⟩
 case round =>(
 obtain ⟨k,hk,rfl,iJ,aR⟩:=hrel;have BB:=ah cX aR;by_cases bj:k<K;{
 have da:=aT k K;obtain ⟨nm,qL⟩:∃ nm,(du 47 t)[k]?=some nm:=⟨_,aK (by rw [aa EK];exact bj)⟩;obtain ⟨p',c',Bo,DG⟩:=aa HP k nm qL;have P3:=af Bo aR;have I7:=DG.below aR;have IZ:=aa HL nm (aF qL);obtain ⟨nl,je⟩:=aH nm.length;rw [je] at P3 I7 IZ;have ENL:=ae je;have HNM:=ae qL;clear Bo DG je qL;obtain ⟨R,eR⟩:=aH (iQ nm);have ER:=ae eR;clear eR;go_wp2_with fail;refine (pT p' c' nl nm ENL _ I7 IZ R ER).mono ?_;rintro e w3 ⟨rfl,de⟩;have b3:=ah aR de;cases R with
 | true=>
  have zb:Hid (∀ j nm,j<k+1->(du 47 t)[j]?=some nm->iQ nm=true):=fun j nm' hj Tr=>by by_cases e:j=k;{subst e;have e2:=HNM.symm.trans Tr;simp at e2;rw [<-e2];exact aa ER};{exact iJ j nm' ab Tr}
  clear P3 I7 de aR BB;go_wp2;go_roundw
  case rel=>exact ⟨k+1,ab,by go_num,zb,b3⟩
  exact dC
 | false=>
  have eF:B=false:=by
   rw [aa lr];have:(du 47 t).all iQ=false:=by rw [List.all_eq_false];exact ⟨nm,aF (aa HNM),by simp [aa ER]⟩
   rw [this];simp
  subst eF;clear P3 I7;go_wp2;go_ret;exact ⟨rfl,ah BB de⟩};{
 have da:=dy k K;have eT:B=true:=by
  rw [aa lr];have:(du 47 t).all iQ=true:=by rw [List.all_eq_true];intro nm qL;obtain ⟨i,hi,rfl⟩:=List.getElem_of_mem qL;exact aa iJ i _ (by rw [aa EK] at hi;omega) (aK hi)
  simp [this,FL]
 subst eT;go_wp2;go_ret;exact ⟨rfl,BB⟩})}
 {
 have VU:=ja 8 K;have eF:B=false:=by rw [aa lr];simp [FL]
 subst eF;go_wp2;go_ret;exact ⟨rfl,cX⟩}}};{
 have JV:(x==47)=false:=by simp [kL]
 have uR:(x != 47)=true:=by simp [kL]
 have eF:B=false:=by rw [<-aa eB,el,vp];exact Cu kL
 subst eF;go_enter func158,ntmps158;go_wp2;go_ret;exact ⟨rfl,Below.refl _ _⟩}
theorem we (p:Option Addr) (c n:Nat) (l:List Int) (en:Hid (l.length=n)) (w:World) (h:Rd w (.S p n c) l) (hb:Hid (bM l)) (hl:n<=1048576) (B:Bool) (eB:Hid (vp l=B)) :
  Calls prog 86 #[.S p n c] w fun e w'=>e=.returned (.bool B)/\Below w.heap.size w w':=by
 go_enter func86,ntmps86;go_wp2_with fail;refine (Dm p c n l en _ h hb hl B eB).mono ?_;rintro e w1 ⟨⟨v,rfl⟩,bq⟩;go_wp2;go_ret;exact ⟨rfl,bq⟩
abbrev Ev:=Int × List Int
abbrev aY:=Int × Int × List Ev
structure aD where
 path:List Int
 value:List Int
 owner:Int
 mode:Int
 holders:List Int
 aB:Int
 gen:Int
 watchers:List Int
def nH (w:World) (v:Value) (ns:List Int):Prop:=
 ∃ (p:Option Addr) (c:Nat),v=.S p ns.length c/\(ns=[]\/∃ b o,p=some ⟨b,o,none⟩/\∀ i,i<ns.length->w.cell? ⟨b,o+i,none⟩=some (.U (ns.getD i 0)))
def vO (w:World) (v:Value) (es:List Ev):Prop:=
 ∃ (p:Option Addr) (c:Nat),v=.S p es.length c/\(es=[]\/∃ b o,p=some ⟨b,o,none⟩/\∀ i e,es[i]?=some e->w.cell? ⟨b,o+i*2,none⟩=some (.I e.1)/\∃ u,w.cell? ⟨b,o+i*2+1,none⟩=some u/\Rd w u e.2)
def RdS (w:World) (v:Value) (ss:List aY):Prop:=
 ∃ (p:Option Addr) (c:Nat),v=.S p ss.length c/\(ss=[]\/∃ b o,p=some ⟨b,o,none⟩/\∀ i s,ss[i]?=some s->w.cell? ⟨b,o+i*3,none⟩=some (.U s.1)/\w.cell? ⟨b,o+i*3+1,none⟩=some (.I s.2.1)/\∃ u,w.cell? ⟨b,o+i*3+2,none⟩=some u/\vO w u s.2.2)
theorem nH.below {w w':World} {ns:List Int} (h:nH w v ns) (hb:Bw w w'):nH w' v ns:=by
 obtain ⟨p,c,rfl,h⟩:=h;refine ⟨p,c,rfl,?_⟩;rcases h with h | ⟨b,o,rfl,h⟩;{exact .inl h};{exact .inr ⟨b,o,rfl,fun i hi=>af (h i hi) hb⟩}
theorem vO.below {w w':World} {es:List Ev} (h:vO w v es) (hb:Bw w w'):vO w' v es:=by
 obtain ⟨p,c,rfl,h⟩:=h;refine ⟨p,c,rfl,?_⟩;rcases h with h | ⟨b,o,rfl,h⟩;{exact .inl h};{refine .inr ⟨b,o,rfl,fun i e he=>?_⟩;obtain ⟨h1,u,h2,h3⟩:=h i e he;exact ⟨af h1 hb,u,af h2 hb,h3.below hb⟩}
theorem RdS.below {w w':World} {ss:List aY} (h:RdS w v ss) (hb:Bw w w'):RdS w' v ss:=by
 obtain ⟨p,c,rfl,h⟩:=h;refine ⟨p,c,rfl,?_⟩;rcases h with h | ⟨b,o,rfl,h⟩;{exact .inl h};{refine .inr ⟨b,o,rfl,fun i e he=>?_⟩;obtain ⟨h1,h2,u,h3,h4⟩:=h i e he;exact ⟨af h1 hb,af h2 hb,u,af h3 hb,h4.below hb⟩}
abbrev cY (e g x n:Int) (S N:Value):Value:=.agg #[.U e,.U g,.U x,.I n,S,N]
theorem kG (e g x t:Int) (p:Option Addr) (c n:Nat) (N:Value) (ss:List aY) (en:Hid (ss.length=n)) (w:World) (h:RdS w (.S p n c) ss) (hn:n<=1048576) (id:Int) (B:Bool) (eB:Hid ((ss.any fun s=>s.1==id)=B)) :
  Calls prog 89 #[cY e g x t (.S p n c) N,.U id] w fun r w'=>r=.returned (.bool B)/\Bw w w':=by
 have HR:=ae fun (w':World) (hb:Bw w w')=>h.below hb;clear h;go_enter func89,ntmps89;go_wp2_with fail;obtain ⟨W,hW⟩:=ax (w.alloc (.cells #[.U e,.U g,.U x,.I t,.S p n c,N] 27));have bW:=ju hW;have DO:W.cell? ⟨w.heap.size,4,none⟩=some (.S p n c):=by rw [hW];simp
 rw [<-hW];clear hW;have hS:=aa HR _ bW;have HS:=ae hS;have BW:=ae bW;clear hS bW HR
 go_loopw [5] (fun iv wr=>∃ k:Nat,k<=n/\iv=.I k/\Hid (((ss.take k).any fun s=>s.1==id)=false)/\wr=W) (fun iv _=>n-(intOf iv).toNat)
 case atStart=>exact ⟨0,Nat.zero_le _,rfl,(by show _=_;simp),rfl⟩
 case round =>(
 obtain ⟨k,hk,rfl,jS,rfl⟩:=hrel;by_cases bj:k<n;{
 have da:=aT k n;have fL:k<ss.length:=by rw [aa en];exact bj
 obtain ⟨y,hy⟩:∃ y,ss[k]?=some y:=⟨_,aK fL⟩;obtain ⟨p',c',ev,hd⟩:=aa HS;simp only [Value.slice.injEq] at ev;obtain ⟨rfl,-,-⟩:=ev;obtain ⟨b,o,rfl,bG⟩:∃ b o,p=some ⟨b,o,none⟩/\∀ i s,ss[i]?=some s->wr.cell? ⟨b,o+i*3,none⟩=some (.U s.1):=by rcases hd with h0 | ⟨b,o,h1,h2⟩;{rw [h0] at fL;simp at fL};{exact ⟨b,o,h1,fun i s hi=>(h2 i s hi).1⟩}
 have zO:=bG k y hy;have HY:=ae hy;clear bG hd hy fL;by_cases hid:y.1=id;{
 have eT:B=true:=by rw [<-aa eB,List.any_eq_true];exact ⟨y,aF (aa HY),by simp [hid]⟩
 subst eT;have ac6:(y.1==id)=true:=by simp [hid]
 go_wp2;go_ret;exact ⟨rfl,BW⟩};{
 have ac6:(y.1==id)=false:=by simp [hid]
 have Mf:Hid (((ss.take (k+1)).any fun s=>s.1==id)=false):=by show _=_;rw [List.take_add_one,aa HY,List.any_append,aa jS];simp [ac6]
 go_wp2;go_roundw
 case rel=>exact ⟨k+1,ab,by go_num,Mf,by first | rfl | trivial⟩
 exact dC}};{
 have da:=dy k n;have eF:B=false:=by rw [<-aa eB];have:=aa jS;rwa [List.take_of_length_le (by rw [aa en];omega)] at this
 subst eF;go_wp2;go_ret;exact ⟨rfl,BW⟩})
def live (ss:List aY) (id:Int):Bool:=ss.any fun s=>s.1==id
def yy (ss:List aY) (ids:List Int) (i:Nat):Bool:=live ss (ids.getD i 0)&&(i==0||decide (ids.getD (i-1) 0<ids.getD i 0))
def gq (ss:List aY) (ids:List Int):Bool:=(List.range ids.length).all (yy ss ids)
theorem cM {k:Nat} (h:(List.range k).all f=true) (hk:f k=true):(List.range (k+1)).all f=true:=by
 rw [List.range_succ,List.all_append,h];simp [hk]
theorem dK {k n:Nat} (hk:k<n) (h:f k=false):(List.range n).all f=false:=by
 rw [List.all_eq_false];exact ⟨k,List.mem_range.2 hk,by simp [h]⟩
end Go.Proofs.YtcfcafeciggjeaaGreatDoor
