import Derived.Test.YtjjnidignljppaaGreatDoorK11
namespace Go.Proofs.YtjjnidignljppaaGreatDoor
set_option linter.all false
set_option maxRecDepth 100000
open Go.ChangeShapes Go.WideShapes Go.ChangeAt Go.RowKit
variable {B:Nat}{l:LI}{v:Value}
abbrev jE(B:Nat)(w:World)(v:Value)(l:LI):Prop:=w.ownsRow B 28 1 v l.length (l.map (Value.int .u64))
def jE.form{w:World}(h:jE B w v l):∃p c,v=.S p l.length c:=by
 rcases h.2 with⟨rfl,h0⟩|⟨g,cap,cur,rfl,_⟩;{exact⟨none,0,by rw[h0]⟩};{exact⟨_,_,rfl⟩}
def jE.below{w w':World}(h:jE B w v l)(hb:Bw w w'):jE B w' v l:=
 World.ownsRow.kept (row:=none) h (St hb) (by by_cases e:v.ownBlock=none<;>simp[e])
def ZT(w:World)(v:Value):Prop:=(∀(a:Addr)(n c:Nat),v=.S (some a) n c->a.off=0/\a.spot=none/\∀j,n<=j->j<c->w.cell? ⟨a.block,j,none⟩=some (.U 0))/\∀(n c:Nat),v=.S none n c->c=0
def ZT.keep{w w':World}(h:ZT w v)(hk:∀b,v.ownBlock=some b->w'.heap[b]?=w.heap[b]?):ZT w' v:=⟨fun a n c e=>by
 obtain⟨h1,h2,h3⟩:=h.1 a n c e;refine⟨h1,h2,fun j hj hc=>(World.cell?_of_block (hk _ (by rw[e];rfl))).trans (h3 j hj hc)⟩,h.2⟩
def ZT.nil(w:World):ZT w (.S none 0 0):=⟨fun a n c e=>by simp at e,fun n c e=>by simp only[dU]at e;exact e.2.2.symm⟩
def kM(B:Nat)(w:World)(v:Value)(l:LI):Prop:=jE B w v l/\ZT w v
def am6{k j:Nat}(h:j<k):(Builtin.zeroCells (Value.cells (.U 0)) k)[j]?=some (.U 0):=by
 have e:Value.cells (.U 0)=#[.U 0]:=rfl;rw[e,Builtin.zeroCells];simp[h,Nat.mod_one]
def xT{w:World}{base:Nat}{ty:TypeId}(i:TypeInfo)(hi:Tryz.prog.info? 28=some i)(hz:i.zero=some (.U 0))(hs:i.size=1)(hb:i.bytes=8){n:Nat}{xs:List Value}(bO:w.ownsRow base 28 1 v n xs)(hzt:ZT w v){a:Addr}{m:Nat}(c:Nat){news:List Value}(hl:news.length=m*1)(iW:∀j u,news[j]?=some u->w.cell? (a.add j)=some u)(h1:∀u∈news,u.oneCell'=true)(h63:n+m<=maxLen)(qN:(n+m)*8<=140737488355328)(yL:base<=w.heap.size):∃v' w',(Builtin.append_ #[91,91] ty #[v,.S (some a) m c]).run Tryz.prog w=.ok v' w'/\w'.ownsRow base 28 1 v' (n+m) (xs++news)/\w.grownBy w' v.ownBlock/\ZT w' v':=by
 obtain⟨v',w',hr,h2,h3,h4⟩:=run_append_own (P:=Tryz.prog) w base 91 ty 28 i (.U 0) 1 8 Tryz.underlying91 hi hz hs hb rfl aU v n xs bO a m c news hl iW h1 h63 qN yL;refine⟨v',w',hr,h2,h3,?_⟩;have cb1:n+m<=9223372036854775807:=by simp only[maxLen]at h63;omega
 have Dx:news.length=m*i.size:=by rw[hs];exact hl
 have tail:∀(xs:List Value)(k K:Nat),xs.length=k->∀(W:World),ZT (W.alloc (.cells (xs.toArray++Builtin.zeroCells (Value.cells (.U 0)) (K-k)) 28)) (.T W.heap.size k K):=fun xs k K hk W=>by refine⟨fun a n c e=>?_,fun n c e=>by simp at e⟩;simp only[dU,jU]at e;obtain⟨rfl,rfl,rfl⟩:=e;refine⟨rfl,rfl,fun j hj hc=>?_⟩;rw[cell_of_row _ _ _ _ _ _ (heap_alloc_new W _),Array.getElem?_append_right (by simpa[hk]using hj)];simp only[List.size_toArray,hk];exact am6 ae
 rcases bO.2 with⟨rfl,rfl⟩|⟨g,cap,cur,rfl,hbg,hg,vG,Dy,hcs,bn3⟩;{by_cases hm:m=0;{rw[h4.2 ⟨rfl,hm⟩];exact ZT.nil _};{have kY:=run_append_nil (P:=Tryz.prog) w 91 ty 28 i (.U 0) Tryz.underlying91 hi hz a m c news Dx iW ae ae (by rw[hb];omega);rw[hr]at kY;simp only[Result.ok.injEq]at kY;obtain⟨rfl,rfl⟩:=kY;exact tail news m _ ae w.drew}};{
 by_cases Uw:n+m<=cap;{
 have aS1:n*i.size+news.length<=cur.size:=by rw[hs,hl,hcs];omega
 have kY:=run_append_room (P:=Tryz.prog) w 91 ty 28 i Tryz.underlying91 hi g n cap cur hg a m c news Dx iW h1 Uw aS1;rw[hr]at kY;simp only[Result.ok.injEq]at kY;obtain⟨rfl,rfl⟩:=kY;refine⟨fun b n' c' e=>?_,fun n c e=>by simp at e⟩;simp only[dU,jU]at e;obtain⟨rfl,rfl,rfl⟩:=e;obtain⟨-,-,q⟩:=hzt.1 _ _ _ rfl;refine⟨rfl,rfl,fun j hj hc=>?_⟩;have q1:=q j ae hc;rw[cell_of_row _ _ _ _ _ _ hg]at q1;rw[cell_of_row _ _ _ _ _ _ (setRow_heap w g cur _ _ _ hg),hs,wC,mE bj,Kt];rw[<-q1,<-Ug]
 congr 1
 simp;omega};{
 have holds:∀j u,xs[j]?=some u->w.cell? ((⟨g,0,none⟩:Addr).add j)=some u:=bO.cells (g:=g) rfl;have hxl:xs.length=n*i.size:=by rw[hs];exact bO.1
 have kY:=run_append_grow (P:=Tryz.prog) w 91 ty 28 i (.U 0) Tryz.underlying91 hi hz ⟨g,0,none⟩ n cap xs hxl holds a m c news Dx iW ae ae (growslice_fits ae (by rw[hb];exact qN));rw[hr]at kY;simp only[Result.ok.injEq]at kY;obtain⟨rfl,rfl⟩:=kY;have hx1:=bO.1;have e:xs.toArray++news.toArray=(xs++news).toArray:=ai;rw[e];exact tail (xs++news) (n+m) _ (by rw[ig];omega) w.drew}}
theorem gD{w:World}{ops:Array Oper}{rest:List Oper}{o:Oper}{a:Act}{Q:Exit->Act->World->Prop}(mr:o.guard=none){s x:Operand}(ho:o.op=.call {callee:=.builtin .append,args:=#[s,x],argTypes:=#[91,91]})(v:Value){lm:LI}{y:Int}(GR:Hid (lm=l++[y]))(g:Nat)(hs:a.eval s=v)(hx:a.eval x=.T g 1 1)(bO:kM B w v l)(hc:w.cell? ⟨g,0,none⟩=some (.U y))(hl:l.length<4194304)(hB:B<=w.heap.size)(h:∀p' c' w',kM B w' (.S p' lm.length c') lm->w.grownBy w' v.ownBlock->wpList Tryz.prog ops Q rest (a.put o.dst (.S p' lm.length c')) w'):wpList Tryz.prog ops Q (o::rest) a w:=by
 obtain⟨i,hi,nO,iL,ju⟩:=info_parts Tryz.infoU64;obtain⟨v',w',hr,h1,h2,h3⟩:=xT (ty:=o.type) i hi nO iL ju bO.1 bO.2 (a:=⟨g,0,none⟩) (m:=1) 1 (news:=[.U y]) rfl (fun j u hu=>by
  cases j with
  |zero=>simp at hu;subst hu;rw[Addr.add_lit];exact hc
  |succ j=>simp at hu) (fun u hu=>by simp at hu;subst hu;rfl) ic ae hB
 refine Lib.wpList_append_run w mr s x _ _ ho _ _ hs hx _ _ hr ?_;have e:=aa GR;subst e;have mP:jE B w' v' (l++[y]):=by unfold jE;rw[ig,ko];exact h1
 obtain⟨p',c',rfl⟩:=mP.form;exact h p' c' w' ⟨mP,h3⟩ h2
def kM.below{w w':World}(h:kM B w v l)(hb:Bw w w'):kM B w' v l:=⟨h.1.below hb,h.2.keep fun b e=>hb.block b (h.1.lt b e).2⟩
def kM.form{w:World}(h:kM B w v l):∃p c,v=.S p l.length c:=h.1.form
def kM.lt{w:World}(h:kM B w v l):∀k,v.ownBlock=some k->B<=k/\k<w.heap.size:=World.ownsRow.lt h.1
def kM.nil(B:Nat)(w:World):kM B w (.S none 0 0) []:=⟨by simpa[jE]using World.ownsRow_nil w B 28 1,ZT.nil w⟩
end Go.Proofs.YtjjnidignljppaaGreatDoor
