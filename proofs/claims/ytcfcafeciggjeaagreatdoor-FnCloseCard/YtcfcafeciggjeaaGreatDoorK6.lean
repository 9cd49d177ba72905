import Derived.Test.YtcfcafeciggjeaaGreatDoorK4
import Derived.Test.YtcfcafeciggjeaaGreatDoorK5
namespace Go.Proofs.YtcfcafeciggjeaaGreatDoor
set_option maxHeartbeats 4000000
set_option linter.unusedVariables false
set_option linter.unusedSimpArgs false
set_option maxRecDepth 100000
open Go.ChangeShapes Go.WideShapes Go.ChangeAt Go.RowKit Go.Proofs.Tryz
variable {f:Nat->Bool} {v:Value} {w w':World}
theorem Lv {t:List Int}:∀ n∈cG (47:Int) t,n.length<=t.length:=by
 induction t with
 | nil=>intro n hn;simp [cG] at hn;subst hn;simp
 | cons x l ih=>
  intro n hn;rw [cG] at hn;split at hn;{rcases List.mem_cons.1 hn with rfl | hn;{simp};{have:=ih n hn;simp;omega}};{
 cases hc:cG 47 l with
 | nil=>
  rw [hc] at hn;simp at hn;subst hn;simp
 | cons m ms=>
  rw [hc] at hn ih;rcases List.mem_cons.1 hn with rfl | hn;{have:=ih m (by simp);simp;omega};{have:=ih n (by simp [hn]);simp;omega}}
theorem AX (p:Option Addr) (c n:Nat) (l:List Int) (en:Hid (l.length=n)) (w:World) (h:Rd w (.slice p n c) l) (hb:Hid (bQ l)) (hl:n<=1048576) (hcn:n<=c) (wN:c<=maxLen) (hm:∃ m,w.cell? ⟨2,0,none⟩=some (.int .i64 m)) (B:Bool) (eB:Hid (vp l=B)) :
  Calls prog 158 #[.slice p n c] w fun e w'=>e=.returned (.bool B)/\Below w.heap.size w w':=by
 have HR:=ae h;have HM:=ae hm;clear h hm;by_cases Fh:n=0;{
 subst Fh;have eF:B=false:=by
  rw [<-aa eB,List.length_eq_zero_iff.1 (aa en)]
  rfl
 subst eF;go_enter func158,ntmps158;go_wp2;go_ret;exact ⟨rfl,Below.refl _ _⟩};have Fg:((n:Int)==0)=false:=by simp [Fh]
 obtain ⟨b,o,rfl,-,hc⟩:=HR.at (by rw [aa en];omega);obtain ⟨x,t,el⟩:∃ x t,l=x::t:=by
  cases l with
  | nil=>have:=aa en;simp at this;omega
  | cons x t=>exact ⟨x,t,rfl⟩
 have hx:w.cell? ⟨b,o,none⟩=some (.int .u8 x):=by have:=hc 0 (by rw [aa en];omega);rw [el] at this;exact this
 by_cases j9:x=47;{
 subst j9;have ent:t.length=n-1:=by have:=aa en;rw [el] at this;simp at this;omega
 have MR:∀ i,i<n-1->w.cell? ⟨b,o+1+i,none⟩=some (.int .u8 (t.getD i 0)):=fun i hi=>by have:=hc (1+i) (by rw [aa en];omega);rw [el,<-Nat.add_assoc] at this;rw [this];simp [List.getD,Nat.add_comm 1 i]
 have Ux:bQ t:=fun z hz=>aa hb z (by rw [el];simp [hz]);obtain ⟨K,eK⟩:=aN ((cG 47 t).length);have cF:B=(decide (K<=8)&&(cG 47 t).all gr):=by rw [<-aa eB,el,vp,st,eK];simp
 have CV:K<=n+1:=by have h1:=(rW Ux).2;have h2:=Lib.count_le (Lib.bytesOf t) (Lib.bytesOf [47]);rw [Lib.bytesOf_length,ent] at h2;omega
 obtain ⟨N,eN⟩:=aN (n-1);obtain ⟨C,eC⟩:=aN (c-1);have Fe:∀ (o':Nat) (w':World),(N=0\/o'=o+1)->Below w.heap.size w w'->w'.cell? ⟨w.heap.size,0,none⟩=some (.int .u8 47)->Calls prog 175 #[.slice (some ⟨b,o',none⟩) N C,.slice (some ⟨w.heap.size,0,none⟩) 1 1] w' fun e w''=>e=.returned (.slice (some ⟨w'.heap.size,0,none⟩) K K)/\(∀ j nm,(cG 47 t)[j]?=some nm->∃ p' c',w''.cell? ⟨w'.heap.size,j,none⟩=some (.slice p' nm.length c')/\Rd w'' (.slice p' nm.length c') nm)/\Below w'.heap.size w' w'':=by intro o' w' Rb cL hg;refine DH b o' N C t (by rw [ent,eN]) w.heap.size w' (fun i hi=>?_) hg Ux (by omega) (by omega) (by omega) ?_ K eK;{rcases Rb with h0 | rfl;{omega};{exact (cL.cell (p:=⟨b,o+1+i,none⟩) (World.block_lt_of_cell? w _ (MR i (by omega)))).trans (MR i (by omega))}};{obtain ⟨m,hm⟩:=aa HM;exact ⟨m,(cL.cell (p:=⟨2,0,none⟩) (World.block_lt_of_cell? w _ hm)).trans hm⟩}
 have HSP:=ae Fe;have jQ:=ae cF;have EK:=ae eK;have g1:(1:Int)<=(n:Int):=by omega
 have g2:(1:Int)<=(c:Int):=by omega
 have g3:(n:Int)<=(c:Int):=by omega
 have HN:=ae (ag eN eC);clear Fe cF MR Ux ent eK hc eN eC;have bA:Below w.heap.size w (w.alloc (.cells #[.int .u8 47] 5)):=ay.alloc ax _;have Hj:∀ o',(N=0\/o'=o+1)->Calls prog 175 #[.slice (some ⟨b,o',none⟩) N C,.slice (some ⟨w.heap.size,0,none⟩) 1 1] (w.alloc (.cells #[.int .u8 47] 5)) fun e w''=>e=.returned (.slice (some ⟨w.heap.size+1,0,none⟩) K K)/\(∀ j nm,(cG 47 t)[j]?=some nm->∃ p' c',w''.cell? ⟨w.heap.size+1,j,none⟩=some (.slice p' nm.length c')/\Rd w'' (.slice p' nm.length c') nm)/\Below w.heap.size w w'':=by
  intro o' Rb;have e:(w.alloc (.cells #[.int .u8 47] 5)).heap.size=w.heap.size+1:=by simp
  have:=aa HSP o' _ Rb bA (by simp);rw [e] at this;refine this.mono ?_;rintro e1 w1 ⟨rfl,h1,h2⟩;refine ⟨rfl,h1,?_⟩;rw [<-e] at h2;exact ai bA h2
 have HF:=ae Hj;clear Hj bA;have hlen:∀ nm∈cG (47:Int) t,nm.length<=2097152:=fun nm nR=>by have h1:=Lv nm nR;have h2:=aa en;rw [el] at h2;simp at h2;omega
 have HL:=ae hlen;clear hlen el;by_cases mG:c=1;{
 subst mG;obtain rfl:n=1:=by omega
 go_enter func158,ntmps158;go_wp2_with fail;have hN0:(0:Nat)=N:=by have:=HN.1;omega
 have Lh:(0:Nat)=C:=by have:=HN.2;omega
 have Fe:=aa HF o (.inl hN0.symm);rw [<-hN0,<-Lh] at Fe;clear hN0 Lh;refine Fe.mono ?_;rintro e w2 ⟨rfl,Kw,aS⟩;have HP:=ae Kw;clear Fe Kw;by_cases Pg:K<=8;{
 have Pf:¬ (8:Int)<(K:Int):=by omega
 go_wp2
 go_loopw [24] (fun i wr=>∃ k:Nat,k<=K/\i=.int .i64 k/\Hid (∀ j nm,j<k->(cG 47 t)[j]?=some nm->gr nm=true)/\Below w2.heap.size w2 wr) (fun i _=>K-(intOf i).toNat)
 case atStart=>exact ⟨0,Nat.zero_le _,rfl,(fun j nm hj=>by omega),Below.refl _ _⟩
 case round =>(
 obtain ⟨k,hk,rfl,gC,aT⟩:=hrel;have BB:=ai aS aT;by_cases br:k<K;{
 have bt:(k:Int)<(K:Int):=by omega
 obtain ⟨nm,nR⟩:∃ nm,(cG 47 t)[k]?=some nm:=⟨_,aE (by rw [aa EK];exact br)⟩;obtain ⟨p',c',tQ,yv⟩:=aa HP k nm nR;have Bj:=af tQ aT;have we:=yv.below aT;have Ff:=aa HL nm (aF nR);obtain ⟨nl,iI⟩:=aN nm.length;rw [iI] at Bj we Ff;have ENL:=ae iI;have Wm:=ae nR;clear tQ yv iI nR;obtain ⟨R,eR⟩:=aN (gr nm);have ER:=ae eR;clear eR;go_wp2_with fail;refine (mP p' c' nl nm ENL _ we Ff R ER).mono ?_;rintro e w3 ⟨rfl,dA⟩;have b3:=ai aT dA;cases R with
 | true=>
  have pL:Hid (∀ j nm,j<k+1->(cG 47 t)[j]?=some nm->gr nm=true):=fun j Zc hj Um=>by by_cases e:j=k;{subst e;have e2:=Wm.symm.trans Um;simp at e2;rw [<-e2];exact aa ER};{exact gC j Zc (by omega) Um}
  clear Bj we dA aT BB;go_wp2;go_roundw
  case rel=>exact ⟨k+1,by omega,by go_num,pL,b3⟩
  case measure=>simp [intOf];omega
 | false=>
  have eF:B=false:=by
   rw [aa jQ];have:(cG 47 t).all gr=false:=by rw [List.all_eq_false];exact ⟨nm,aF (aa Wm),by simp [aa ER]⟩
   rw [this];simp
  subst eF;clear Bj we;go_wp2;go_ret;exact ⟨rfl,ai BB dA⟩};{
 have bt:¬ (k:Int)<(K:Int):=by omega
 have eT:B=true:=by
  rw [aa jQ];have:(cG 47 t).all gr=true:=by rw [List.all_eq_true];intro nm nR;obtain ⟨i,hi,rfl⟩:=List.getElem_of_mem nR;exact aa gC i _ (by rw [aa EK] at hi;omega) (aE hi)
  simp [this,Pg]
 subst eT;go_wp2;go_ret;exact ⟨rfl,BB⟩})}
 {
 have Pf:(8:Int)<(K:Int):=by omega
 have eF:B=false:=by rw [aa jQ];simp [Pg]
 subst eF;go_wp2;go_ret;exact ⟨rfl,aS⟩}};{
 have aZ6:¬ (c:Int)=1:=by omega
 go_enter func158,ntmps158;go_wp2_with fail;have Fe:=aa HF (o+1) (.inr rfl);rw [<-HN.1,<-HN.2] at Fe;refine Fe.mono ?_;rintro e w2 ⟨rfl,Kw,aS⟩;have HP:=ae Kw;clear Fe Kw;by_cases Pg:K<=8;{
 have Pf:¬ (8:Int)<(K:Int):=by omega
 go_wp2
 go_loopw [24] (fun i wr=>∃ k:Nat,k<=K/\i=.int .i64 k/\Hid (∀ j nm,j<k->(cG 47 t)[j]?=some nm->gr nm=true)/\Below w2.heap.size w2 wr) (fun i _=>K-(intOf i).toNat)
 case atStart=>exact ⟨0,Nat.zero_le _,rfl,(fun j nm hj=>by omega),Below.refl _ _⟩
 case round =>(
 obtain ⟨k,hk,rfl,gC,aT⟩:=hrel;have BB:=ai aS aT;by_cases br:k<K;{
 have bt:(k:Int)<(K:Int):=by omega
 obtain ⟨nm,nR⟩:∃ nm,(cG 47 t)[k]?=some nm:=⟨_,aE (by rw [aa EK];exact br)⟩;obtain ⟨p',c',tQ,yv⟩:=aa HP k nm nR;have Bj:=af tQ aT;have we:=yv.below aT;have Ff:=aa HL nm (aF nR);obtain ⟨nl,iI⟩:=aN nm.length;rw [iI] at Bj we Ff;have ENL:=ae iI;have Wm:=ae nR;clear tQ yv iI nR;obtain ⟨R,eR⟩:=aN (gr nm);have ER:=ae eR;clear eR;go_wp2_with fail;refine (mP p' c' nl nm ENL _ we Ff R ER).mono ?_;rintro e w3 ⟨rfl,dA⟩;have b3:=ai aT dA;cases R with
 | true=>
  have pL:Hid (∀ j nm,j<k+1->(cG 47 t)[j]?=some nm->gr nm=true):=fun j Zc hj Um=>by by_cases e:j=k;{subst e;have e2:=Wm.symm.trans Um;simp at e2;rw [<-e2];exact aa ER};{exact gC j Zc (by omega) Um}
  clear Bj we dA aT BB;go_wp2;go_roundw
  case rel=>exact ⟨k+1,by omega,by go_num,pL,b3⟩
  case measure=>simp [intOf];omega
 | false=>
  have eF:B=false:=by
   rw [aa jQ];have:(cG 47 t).all gr=false:=by rw [List.all_eq_false];exact ⟨nm,aF (aa Wm),by simp [aa ER]⟩
   rw [this];simp
  subst eF;clear Bj we;go_wp2;go_ret;exact ⟨rfl,ai BB dA⟩};{
 have bt:¬ (k:Int)<(K:Int):=by omega
 have eT:B=true:=by
  rw [aa jQ];have:(cG 47 t).all gr=true:=by rw [List.all_eq_true];intro nm nR;obtain ⟨i,hi,rfl⟩:=List.getElem_of_mem nR;exact aa gC i _ (by rw [aa EK] at hi;omega) (aE hi)
  simp [this,Pg]
 subst eT;go_wp2;go_ret;exact ⟨rfl,BB⟩})}
 {
 have Pf:(8:Int)<(K:Int):=by omega
 have eF:B=false:=by rw [aa jQ];simp [Pg]
 subst eF;go_wp2;go_ret;exact ⟨rfl,aS⟩}}};{
 have Tn:(x==47)=false:=by simp [j9]
 have rH:(x != 47)=true:=by simp [j9]
 have eF:B=false:=by rw [<-aa eB,el,vp];exact xF j9
 subst eF;go_enter func158,ntmps158;go_wp2;go_ret;exact ⟨rfl,Below.refl _ _⟩}
theorem rY (p:Option Addr) (c n:Nat) (l:List Int) (en:Hid (l.length=n)) (w:World) (h:Rd w (.slice p n c) l) (hb:Hid (bQ l)) (hl:n<=1048576) (B:Bool) (eB:Hid (vp l=B)) :
  Calls prog 86 #[.slice p n c] w fun e w'=>e=.returned (.bool B)/\Below w.heap.size w w':=by
 go_enter func86,ntmps86;go_wp2_with fail;refine (yb p c n l en _ h hb hl B eB).mono ?_;rintro e w1 ⟨⟨v,rfl⟩,bf⟩;go_wp2;go_ret;exact ⟨rfl,bf⟩
abbrev Ev:=Int × List Int
abbrev aL:=Int × Int × List Ev
structure aA where
 path:List Int
 value:List Int
 owner:Int
 mode:Int
 holders:List Int
 aD:Int
 gen:Int
 watchers:List Int
def kL (w:World) (v:Value) (ns:List Int):Prop:=
 ∃ (p:Option Addr) (c:Nat),v=.slice p ns.length c/\(ns=[]\/∃ b o,p=some ⟨b,o,none⟩/\∀ i,i<ns.length->w.cell? ⟨b,o+i,none⟩=some (.int .u64 (ns.getD i 0)))
def L5 (w:World) (v:Value) (es:List Ev):Prop:=
 ∃ (p:Option Addr) (c:Nat),v=.slice p es.length c/\(es=[]\/∃ b o,p=some ⟨b,o,none⟩/\∀ i e,es[i]?=some e->w.cell? ⟨b,o+i*2,none⟩=some (.int .i64 e.1)/\∃ u,w.cell? ⟨b,o+i*2+1,none⟩=some u/\Rd w u e.2)
def IS (w:World) (v:Value) (ss:List aL):Prop:=
 ∃ (p:Option Addr) (c:Nat),v=.slice p ss.length c/\(ss=[]\/∃ b o,p=some ⟨b,o,none⟩/\∀ i s,ss[i]?=some s->w.cell? ⟨b,o+i*3,none⟩=some (.int .u64 s.1)/\w.cell? ⟨b,o+i*3+1,none⟩=some (.int .i64 s.2.1)/\∃ u,w.cell? ⟨b,o+i*3+2,none⟩=some u/\L5 w u s.2.2)
theorem kL.below {ns:List Int} (h:kL w v ns) (hb:Below w.heap.size w w'):kL w' v ns:=by
 obtain ⟨p,c,rfl,h⟩:=h;refine ⟨p,c,rfl,?_⟩;rcases h with h | ⟨b,o,rfl,h⟩;{exact .inl h};{exact .inr ⟨b,o,rfl,fun i hi=>af (h i hi) hb⟩}
theorem L5.below {es:List Ev} (h:L5 w v es) (hb:Below w.heap.size w w'):L5 w' v es:=by
 obtain ⟨p,c,rfl,h⟩:=h;refine ⟨p,c,rfl,?_⟩;rcases h with h | ⟨b,o,rfl,h⟩;{exact .inl h};{refine .inr ⟨b,o,rfl,fun i e he=>?_⟩;obtain ⟨h1,u,h2,h3⟩:=h i e he;exact ⟨af h1 hb,u,af h2 hb,h3.below hb⟩}
theorem IS.below {ss:List aL} (h:IS w v ss) (hb:Below w.heap.size w w'):IS w' v ss:=by
 obtain ⟨p,c,rfl,h⟩:=h;refine ⟨p,c,rfl,?_⟩;rcases h with h | ⟨b,o,rfl,h⟩;{exact .inl h};{refine .inr ⟨b,o,rfl,fun i e he=>?_⟩;obtain ⟨h1,h2,u,h3,h4⟩:=h i e he;exact ⟨af h1 hb,af h2 hb,u,af h3 hb,h4.below hb⟩}
abbrev cK (e g x n:Int) (S N:Value):Value:=.agg #[.int .u64 e,.int .u64 g,.int .u64 x,.int .i64 n,S,N]
theorem iO (e g x t:Int) (p:Option Addr) (c n:Nat) (N:Value) (ss:List aL) (en:Hid (ss.length=n)) (w:World) (h:IS w (.slice p n c) ss) (hn:n<=1048576) (id:Int) (B:Bool) (eB:Hid ((ss.any fun s=>s.1==id)=B)) :
  Calls prog 89 #[cK e g x t (.slice p n c) N,.int .u64 id] w fun r w'=>r=.returned (.bool B)/\Below w.heap.size w w':=by
 have HR:=ae fun (w':World) (hb:Below w.heap.size w w')=>h.below hb;clear h;go_enter func89,ntmps89;go_wp2_with fail;obtain ⟨W,hW⟩:=ar (w.alloc (.cells #[.int .u64 e,.int .u64 g,.int .u64 x,.int .i64 t,.slice p n c,N] 27));have bW:Below w.heap.size w W:=by rw [hW];exact ay.alloc ax _
 have yF:W.cell? ⟨w.heap.size,4,none⟩=some (.slice p n c):=by rw [hW];simp
 rw [<-hW];clear hW;have hS:=aa HR _ bW;have HS:=ae hS;have BW:=ae bW;clear hS bW HR
 go_loopw [5] (fun iv wr=>∃ k:Nat,k<=n/\iv=.int .i64 k/\Hid (((ss.take k).any fun s=>s.1==id)=false)/\wr=W) (fun iv _=>n-(intOf iv).toNat)
 case atStart=>exact ⟨0,Nat.zero_le _,rfl,(by show _=_;simp),rfl⟩
 case round =>(
 obtain ⟨k,hk,rfl,lG,rfl⟩:=hrel;by_cases br:k<n;{
 have bt:(k:Int)<(n:Int):=by omega
 have dT:k<ss.length:=by rw [aa en];exact br
 obtain ⟨y,hy⟩:∃ y,ss[k]?=some y:=⟨_,aE dT⟩;obtain ⟨p',c',ev,hd⟩:=aa HS;simp only [Value.slice.injEq] at ev;obtain ⟨rfl,-,-⟩:=ev;obtain ⟨b,o,rfl,bE⟩:∃ b o,p=some ⟨b,o,none⟩/\∀ i s,ss[i]?=some s->wr.cell? ⟨b,o+i*3,none⟩=some (.int .u64 s.1):=by rcases hd with h0 | ⟨b,o,h1,h2⟩;{rw [h0] at dT;simp at dT};{exact ⟨b,o,h1,fun i s hi=>(h2 i s hi).1⟩}
 have uz:=bE k y hy;have HY:=ae hy;clear bE hd hy dT;by_cases hid:y.1=id;{
 have eT:B=true:=by rw [<-aa eB,List.any_eq_true];exact ⟨y,aF (aa HY),by simp [hid]⟩
 subst eT;have Uo:(y.1==id)=true:=by simp [hid]
 go_wp2;go_ret;exact ⟨rfl,BW⟩};{
 have Uo:(y.1==id)=false:=by simp [hid]
 have GU:Hid (((ss.take (k+1)).any fun s=>s.1==id)=false):=by show _=_;rw [List.take_add_one,aa HY,List.any_append,aa lG];simp [Uo]
 go_wp2;go_roundw
 case rel=>exact ⟨k+1,by omega,by go_num,GU,by first | rfl | trivial⟩
 case measure=>simp [intOf];omega}}
 {
 have bt:¬ (k:Int)<(n:Int):=by omega
 have eF:B=false:=by rw [<-aa eB];have:=aa lG;rwa [List.take_of_length_le (by rw [aa en];omega)] at this
 subst eF;go_wp2;go_ret;exact ⟨rfl,BW⟩})
def live (ss:List aL) (id:Int):Bool:=ss.any fun s=>s.1==id
def uk (ss:List aL) (ids:List Int) (i:Nat):Bool:=live ss (ids.getD i 0)&&(i==0||decide (ids.getD (i-1) 0<ids.getD i 0))
def dZ (ss:List aL) (ids:List Int):Bool:=(List.range ids.length).all (uk ss ids)
theorem bU {k:Nat} (h:(List.range k).all f=true) (hk:f k=true):(List.range (k+1)).all f=true:=by
 rw [List.range_succ,List.all_append,h];simp [hk]
theorem db {k n:Nat} (hk:k<n) (h:f k=false):(List.range n).all f=false:=by
 rw [List.all_eq_false];exact ⟨k,List.mem_range.2 hk,by simp [h]⟩
end Go.Proofs.YtcfcafeciggjeaaGreatDoor
