import Derived.Test.YtcfcafeciggjeaaGreatDoorK7
namespace Go.Proofs.YtcfcafeciggjeaaGreatDoor
set_option maxHeartbeats 25600000
set_option linter.all false
set_option maxRecDepth 100000
open Go.ChangeShapes Go.WideShapes Go.ChangeAt Go.RowKit Go.Proofs.Tryz
variable {g:Nat} {l0 l1:List Int} {v0 v1:Value}
theorem xh (g:Nat) (vs:List Value) (ls:List (List Int)) (lm:List Int) (n k:Nat) (ek:Hid (k=ls.length)) (e:Hid (lm=cat ls)) (en:Hid (lm.length=n)) (w:World) (h:uK w g vs ls) (hl:n<=4194304) (hk:k<=10) :
  Calls prog 61 #[.S (some ⟨g,0,none⟩) k k] w fun e w'=>∃ p' c',e=.returned (.S p' n c')/\Own w.heap.size w' (.S p' n c') lm/\Bw w w':=by
 have e1:=aa ek;have e2:=aa e;have e3:=aa en;subst e1 e3 e2;go_enter func61,ntmps61;go_wp2_with fail;refine (Gn g vs ls _ h hl ab).mono ?_;rintro e w1 ⟨p1,c1,rfl,o1,bq⟩;go_wp2;go_ret;exact ⟨p1,c1,rfl,o1,bq⟩
theorem Wp {w:World} (c0:w.cell? ⟨g,0,none⟩=some v0) (c1:w.cell? ⟨g,1,none⟩=some v1) (r0:Rd w v0 l0) (r1:Rd w v1 l1):uK w g [v0,v1] [l0,l1]:=by
 refine ⟨rfl,fun j v x e1 e2=>?_⟩
 match j,e1,e2 with
 | 0,e1,e2=>simp at e1 e2;subst e1 e2;exact ⟨c0,r0⟩
 | 1,e1,e2=>simp at e1 e2;subst e1 e2;exact ⟨c1,r1⟩
theorem Wo {w:World} {v2 v3 v4:Value} {l2 l3 l4:List Int} (c0:w.cell? ⟨g,0,none⟩=some v0) (c1:w.cell? ⟨g,1,none⟩=some v1) (c2:w.cell? ⟨g,2,none⟩=some v2) (c3:w.cell? ⟨g,3,none⟩=some v3) (c4:w.cell? ⟨g,4,none⟩=some v4) (r0:Rd w v0 l0) (r1:Rd w v1 l1) (r2:Rd w v2 l2) (r3:Rd w v3 l3) (r4:Rd w v4 l4):uK w g [v0,v1,v2,v3,v4] [l0,l1,l2,l3,l4]:=by
 refine ⟨rfl,fun j v x e1 e2=>?_⟩
 match j,e1,e2 with
 | 0,e1,e2=>simp at e1 e2;subst e1 e2;exact ⟨c0,r0⟩
 | 1,e1,e2=>simp at e1 e2;subst e1 e2;exact ⟨c1,r1⟩
 | 2,e1,e2=>simp at e1 e2;subst e1 e2;exact ⟨c2,r2⟩
 | 3,e1,e2=>simp at e1 e2;subst e1 e2;exact ⟨c3,r3⟩
 | 4,e1,e2=>simp at e1 e2;subst e1 e2;exact ⟨c4,r4⟩
theorem bz3 (a b:List Int):cat [a,b]=a++b:=by simp [cat]
theorem bz1 (a b c d e:List Int):cat [a,b,c,d,e]=a++(b++(c++(d++e))):=by simp [cat]
def tx (l:List Int):List Int:=vi l.length++l
theorem py (l:List Int):l.length+1<=(tx l).length/\(tx l).length<=l.length+10:=by
 have:=gh l.length;rw [tx,List.length_append];omega
theorem sI (p:Option Addr) (c n:Nat) (l:List Int) (en:Hid (l.length=n)) (w:World) (h:Rd w (.S p n c) l) (hl:n<=1048576) (N:Nat) (eN:Hid ((tx l).length=N)) :
  Calls prog 125 #[.S p n c] w fun e w'=>∃ p' c',e=.returned (.S p' N c')/\Own w.heap.size w' (.S p' N c') (tx l)/\Bw w w':=by
 obtain ⟨M,eM⟩:=aH ((vi n).length);have hM:=gh n;rw [eM] at hM;have EM:=ae eM;clear eM;have hN:M+n=N:=by rw [<-aa eN,tx,List.length_append,aa en,aa EM]
 have wn:IntKind.u64.wrap (n:Int)=(n:Int):=by rw [IntKind.wrap_u64];omega
 have EE:Hid (tx l=vi n++l):=by show _=_;rw [tx,aa en]
 go_enter func125,ntmps125;go_wp2_with fail;refine (Ct 9 n _ ab ab ab M EM).mono ?_;rintro e w1 ⟨p1,c1,rfl,o1,b1⟩;have r1:=h.below b1;have z1:=b1.size;have o1':Own w.heap.size w1 (.S p1 M c1) (vi n):=o1;clear o1 h;go_wp2_with (at_builtin;refine ru rfl _ _ rfl w.heap.size (.S p1 M c1) (vi n) l (tx l) EE p c n en rfl rfl o1' r1 (by rw [aa EM,aa en];omega) ab ?_);intro p2 c2 w2 o2 fU;have b2:=below_grown b1 fU o1' aA ab;rw [aa eN] at o2 ⊢;clear fU o1' r1 b1;go_wp2;go_ret;exact ⟨p2,c2,rfl,o2,b2⟩
theorem mF (p:Option Addr) (c n:Nat) (l:List Int) (en:Hid (l.length=n)) (w:World) (h:Rd w (.S p n c) l) (hl:n<=1048576) (N:Nat) (eN:Hid ((tx l).length=N)) :
  Calls prog 63 #[.S p n c] w fun e w'=>∃ p' c',e=.returned (.S p' N c')/\Own w.heap.size w' (.S p' N c') (tx l)/\Bw w w':=by
 obtain ⟨M,eM⟩:=aH ((vi n).length);have hM:=gh n;rw [eM] at hM;have EM:=ae eM;clear eM;have hN:M+n=N:=by rw [<-aa eN,tx,List.length_append,aa en,aa EM]
 have wn:IntKind.u64.wrap (n:Int)=(n:Int):=by rw [IntKind.wrap_u64];omega
 have EE:Hid (tx l=cat [vi n,l]):=by show _=_;rw [bz3,tx,aa en]
 go_enter func63,ntmps63;go_wp2_with fail;refine (ku n _ ab).mono ?_;rintro e w1 ⟨p1,c1,rfl,o1,b1⟩;rw [aa EM] at o1 ⊢;have r1:=h.below b1;have z1:=b1.size;have rv:=o1.rd;clear o1 h;go_wp2_with fail;refine (xh w1.heap.size [.S p1 M c1,.S p n c] [vi n,l] (tx l) N 2 rfl EE eN _ (Wp aU aU (rv.below (aJ.alloc aA _)) (r1.below (aJ.alloc aA _))) ab ab).mono ?_;rintro e w2 ⟨p2,c2,rfl,o2,cX⟩;have b2:Bw w w2:=ah (ah b1 (aJ.alloc aA _)) cX;have o3:Own w.heap.size w2 (.S p2 N c2) (tx l):=Own.mono o2 dx;clear o2 cX r1 rv b1;go_wp2;go_ret;exact ⟨p2,c2,rfl,o3,b2⟩
def Jf (se pa:Bool) (lo hi vs:Int) (sq:Bool) (s f:Int) (np nv:Nat) (e g:Int):Bool:=
 (se||s==0)&&((pa||np==0)&&(decide (lo<=f)&&(decide (f<=hi)&&(decide ((nv:Int)<=vs)&&(sq||(e==0&&g==0))))))
theorem xd (k:Int) (h:1<=k/\k<=13) (w:World):Calls prog 77 #[.I k] w fun e w'=>e=.returned (.bool (decide (k=2\/k=3\/k=4\/k=5\/k=7\/k=8\/k=9\/k=10\/k=11\/k=12)))/\w'=w:=by
 have:k=1\/k=2\/k=3\/k=4\/k=5\/k=6\/k=7\/k=8\/k=9\/k=10\/k=11\/k=12\/k=13:=by omega
 rcases this with rfl | rfl | rfl | rfl | rfl | rfl | rfl | rfl | rfl | rfl | rfl | rfl | rfl
 all_goals (go_enter func77,ntmps77;go_wp2;go_ret;exact ⟨rfl,rfl⟩)
theorem Dn (k:Int) (h:1<=k/\k<=13) (w:World):Calls prog 79 #[.I k] w fun e w'=>e=.returned (.bool (decide (k=4\/k=5\/k=6\/k=7\/k=8\/k=9\/k=10\/k=11\/k=13)))/\w'=w:=by
 have:k=1\/k=2\/k=3\/k=4\/k=5\/k=6\/k=7\/k=8\/k=9\/k=10\/k=11\/k=12\/k=13:=by omega
 rcases this with rfl | rfl | rfl | rfl | rfl | rfl | rfl | rfl | rfl | rfl | rfl | rfl | rfl
 all_goals (go_enter func79,ntmps79;go_wp2;go_ret;exact ⟨rfl,rfl⟩)
theorem E0 (k:Int) (h:1<=k/\k<=13) (w:World):Calls prog 54 #[.I k] w fun e w'=>e=.returned (.bool (decide (k=1\/k=3\/k=4\/k=5\/k=7\/k=8\/k=9)))/\w'=w:=by
 have:k=1\/k=2\/k=3\/k=4\/k=5\/k=6\/k=7\/k=8\/k=9\/k=10\/k=11\/k=12\/k=13:=by omega
 rcases this with rfl | rfl | rfl | rfl | rfl | rfl | rfl | rfl | rfl | rfl | rfl | rfl | rfl
 all_goals (go_enter func54,ntmps54;go_wp2;go_ret;exact ⟨rfl,rfl⟩)
theorem z0 (s:Int):s=0\/(s != 0)=true:=(Decidable.em (s=0)).imp id (fun h=>by simp [h])
theorem zn (n:Nat):n=0\/((n:Int) != 0)=true:=(Decidable.em (n=0)).imp id (fun h=>by simp [h])
theorem zf (a f:Int):f=a\/(f==a)=false:=(Decidable.em (f=a)).imp id (fun h=>by simp [h])
def rowOf:Nat->Bool × Bool × Int × Int × Int × Bool × Bool
 | 1=>(false,false,0,0,0,false,true)
 | 2=>(true,false,0,0,0,false,false)
 | 3=>(true,false,0,0,0,false,true)
 | 4=>(true,true,0,1,40,false,true)
 | 5=>(true,true,0,0,0,false,true)
 | 6=>(false,true,0,0,0,false,false)
 | 7=>(true,true,0,0,40,false,true)
 | 8=>(true,true,1,2,0,false,true)
 | 9=>(true,true,0,0,0,false,true)
 | 10=>(true,true,0,0,0,true,false)
 | 11=>(true,true,0,0,0,false,false)
 | 12=>(true,false,0,0,0,false,false)
 | 13=>(false,true,0,0,0,false,false)
 | _=>(false,false,0,0,0,false,false)
def vH (k:Nat) (s f:Int) (n m:Nat) (e g:Int):Bool:=Jf (rowOf k).1 (rowOf k).2.1 (rowOf k).2.2.1 (rowOf k).2.2.2.1 (rowOf k).2.2.2.2.1 (rowOf k).2.2.2.2.2.1 s f n m e g
def joR (k:Nat):Bool:=(rowOf k).2.2.2.2.2.2
theorem kinds {k:Nat} (h1:1<=k) (h2:k<=13):k=1\/k=2\/k=3\/k=4\/k=5\/k=6\/k=7\/k=8\/k=9\/k=10\/k=11\/k=12\/k=13:=by omega
theorem Na (k:Int) (h1:1<=k) (h2:k<=13) (s f e g:Int) (p q:Option Addr) (n m c d:Nat) (w:World) (B:Bool) (eB:Hid (vH k.toNat s f n m e g=B)) :
  Calls prog 53 #[X5 k s (.S p n c) f (.S q m d) e g] w fun r w'=>r=.returned (.bool B)/\Bw w w':=by
 have:k=1\/k=2\/k=3\/k=4\/k=5\/k=6\/k=7\/k=8\/k=9\/k=10\/k=11\/k=12\/k=13:=by omega
 clear h1 h2;rcases this with rfl | rfl | rfl | rfl | rfl | rfl | rfl | rfl | rfl | rfl | rfl | rfl | rfl;rcases z0 s with rfl | hs;rcases zn n with rfl | hp;rcases z0 e with rfl | he;rcases z0 g with rfl | hg;rcases zn m with rfl | hv;rcases zf 0 f with rfl | hf;rotate_left 7;rcases zn n with rfl | hp;rcases z0 e with rfl | he;rcases z0 g with rfl | hg;rcases zn m with rfl | hv;rcases zf 0 f with rfl | hf;rotate_left 6;rcases zn n with rfl | hp;rcases z0 e with rfl | he;rcases z0 g with rfl | hg;rcases zn m with rfl | hv;rcases zf 0 f with rfl | hf;rotate_left 6;rcases z0 e with rfl | he;rcases z0 g with rfl | hg;rcases (Decidable.em ((40:Int)<(m:Int))).symm with hv | hv;rcases zf 0 f with rfl | hf;rotate_left;rcases zf 1 f with rfl | hh;rotate_left 5;rcases z0 e with rfl | he;rcases z0 g with rfl | hg;rcases zn m with rfl | hv;rcases zf 0 f with rfl | hf;rotate_left 5;rcases z0 s with rfl | hs;rcases z0 e with rfl | he;rcases z0 g with rfl | hg;rcases zn m with rfl | hv;rcases zf 0 f with rfl | hf;rotate_left 6;rcases z0 e with rfl | he;rcases z0 g with rfl | hg;rcases (Decidable.em ((40:Int)<(m:Int))).symm with hv | hv;rcases zf 0 f with rfl | hf;rotate_left 5;rcases z0 e with rfl | he;rcases z0 g with rfl | hg;rcases zn m with rfl | hv;rcases zf 1 f with rfl | hf;rotate_left;rcases zf 2 f with rfl | hh;rotate_left 5;rcases z0 e with rfl | he;rcases z0 g with rfl | hg;rcases zn m with rfl | hv;rcases zf 0 f with rfl | hf;rotate_left 5;rcases zn m with rfl | hv;rcases zf 0 f with rfl | hf;rotate_left 3;rcases z0 e with rfl | he;rcases z0 g with rfl | hg;rcases zn m with rfl | hv;rcases zf 0 f with rfl | hf;rotate_left 5;rcases zn n with rfl | hp;rcases z0 e with rfl | he;rcases z0 g with rfl | hg;rcases zn m with rfl | hv;rcases zf 0 f with rfl | hf;rotate_left 6;rcases z0 s with rfl | hs;rcases z0 e with rfl | he;rcases z0 g with rfl | hg;rcases zn m with rfl | hv;rcases zf 0 f with rfl | hf;rotate_left 6
 all_goals (cases B<;>first | (exfalso;have h:=aa eB;clear eB;simp_all [vH,Jf,rowOf]<;>omega) | clear eB)
 all_goals (go_enter func53,ntmps53;go_wp2_with fail;refine (xd _ bl _).mono ?_;rintro r w' ⟨rfl,rfl⟩;(try (go_wp2_with fail;refine (Dn _ bl _).mono ?_;rintro r w' ⟨rfl,rfl⟩));go_wp2;go_ret;exact ⟨rfl,aJ.alloc aA _⟩)
theorem Ge (k s f e g:Int) (p q:Option Addr) (n m c d:Nat) (w:World) (hk:k<1\/13<k) :
  Calls prog 53 #[X5 k s (.S p n c) f (.S q m d) e g] w fun r w'=>r=.returned (.bool false)/\Bw w w':=by
 rcases hk with h1 | h2;{go_enter func53,ntmps53;go_wp2;go_ret;exact ⟨rfl,aJ.alloc aA _⟩};{have h3:¬ k<1:=ab;go_enter func53,ntmps53;go_wp2;go_ret;exact ⟨rfl,aJ.alloc aA _⟩}
end Go.Proofs.YtcfcafeciggjeaaGreatDoor
