package tests

import (
	"fmt"
	"strings"
	"testing"

	"loop.example/g00025/impl"
)

// formSheet has names of each kind: plain ones, functions, such that mean others, and such that are none.
const formSheet = "A1: 2 | A2: 3 | B1: x | B2: TRUE | B3: #N/A | " +
	"BASE: =10 | USES: =base+1 | SEES: =seen | ADDS: =LAMBDA(x,x+base) | TWICE: =LAMBDA(x,x*2) | ALIAS: =twice | SAME: =LAMBDA(x,x) | NONE: =LAMBDA(7) | " +
	"INNER: =LET(k,2,LAMBDA(x,x*k)) | MINUSES: =-TWICE | TWINS: =LAMBDA(x,X,1) | BROKEN: =1+ | LOOP: =loop+1 | PING: =pong | PONG: =IFERROR(ping,3) | SELF: =LET(f,LAMBDA(x,self+x),f(1)) | ROUNDED: =LAMBDA(x,ground+x) | GROUND: =rounded(1) | " +
	"DOWN: =LAMBDA(n,IF(n<=1,1,1+down(n-1))) | EVEN: =LAMBDA(n,IF(n=0,TRUE,odd(n-1))) | ODD: =LAMBDA(n,IF(n=0,FALSE,even(n-1))) | CELLS: =A1:B2"

func TestIf(t *testing.T) {
	checkFormulas(t, formSheet, [][2]string{
		{"IF(TRUE,1,2)", "1"}, {"IF(FALSE,1,2)", "2"}, {"IF(0,1,2)", "2"}, {"IF(-0.1,1,2)", "1"}, {"IF(\"true\",1,2)", "1"}, {"IF(\"False\",1,2)", "2"}, {"IF(\"x\",1,2)", "#VALUE!"}, {"IF(\"\",1,2)", "#VALUE!"}, {"IF(\"1\",1,2)", "#VALUE!"}, {"IF(#N/A,1,2)", "#N/A"}, {"IF(1/0,1,2)", "#DIV/0!"}, {"IF(Z9,1,2)", "2"}, {"IF(B2,1,2)", "1"}, {"if(A1>1,\"big\",1/0)", `"big"`},
		{"IF(TRUE,1)", "1"}, {"IF(FALSE,1)", "FALSE"}, {"IF(FALSE,1,)", "0"}, {"IF(TRUE,,2)", "0"}, {"IF(,1,2)", "2"}, {"ISBLANK(IF(TRUE,))", "TRUE"}, {"IF(TRUE,1/0,2)", "#DIV/0!"}, {"IF(FALSE,1/0,2)", "2"}, {"IF(TRUE,1,nosuch)", "1"},
		{"IF(TRUE,{1,2;3,4},5)", "1,2;3,4"}, {"IF(FALSE,1,A1:A2)", "2;3"}, {"IF({TRUE},{1,2},3)", "1,2"}, {"IF({0},{1,2},{3;4})", "3;4"}, {"IF({#N/A},{1,2},3)", "#N/A"},
		{"IF({TRUE,FALSE},1,2)", "1,2"}, {"IF({1;0},1,2)", "1;2"}, {"IF({TRUE,FALSE},1)", "1,FALSE"}, {"IF({TRUE,FALSE},1,)", "1,0"}, {"IF({TRUE;FALSE},{1,2},{3,4})", "1,2;3,4"}, {"IF({TRUE,FALSE},{1;2},{3;4})", "1,3;2,4"}, {"IF({TRUE,FALSE;FALSE,TRUE},{1,2;3,4},{5,6;7,8})", "1,6;7,4"}, {"IF({TRUE,FALSE},{1;2})", "1,FALSE;2,FALSE"},
		// What one of the three lacks is missing, whether it is asked for or not, and that goes ahead of the first one's errors.
		{"IF({TRUE,FALSE},{1,2,3},9)", "1,9,#N/A"}, {"IF({TRUE,FALSE},9,{1,2,3})", "9,2,#N/A"}, {"IF({TRUE,FALSE,TRUE},{1,2},{5,6,7})", "1,6,#N/A"}, {"IF({TRUE,TRUE,TRUE},{5,6,7},{1,2})", "5,6,#N/A"}, {"IF({TRUE;TRUE;FALSE},{1;2},0)", "1;2;#N/A"}, {"IF({#REF!,#REF!,#REF!},{1,2},3)", "#REF!,#REF!,#N/A"},
		{"IF({TRUE,\"x\",#REF!},1,2)", "1,#VALUE!,#REF!"}, {"IF({TRUE,FALSE},#NUM!,2)", "#NUM!,2"}, {"IF({TRUE,FALSE},1,#NUM!)", "1,#NUM!"}, {"IF({#REF!,TRUE},#NUM!,2)", "#REF!,#NUM!"}, {"IF(A1:B1,1,2)", "1,#VALUE!"}, {"IF(Z1:Z2,1,2)", "2;2"},
		{"ROWS(IF(SEQUENCE(1000)>0,SEQUENCE(1,2),0))", "1000"}, {"IF(SEQUENCE(1000)>0,SEQUENCE(1,2),SEQUENCE(1,3))", "#VALUE!"}, {"IF(SEQUENCE(2000)>0,1,{1,2})", "#VALUE!"}, {"IF(SEQUENCE(45)>0,SEQUENCE(1,45),1)", "#VALUE!"}, {"ROWS(IF(TRUE,SEQUENCE(2000)))", "2000"},
		{"IF()", "#VALUE!"}, {"IF(TRUE)", "#VALUE!"}, {"IF(#N/A)", "#VALUE!"}, {"IF(TRUE,1,2,3)", "#VALUE!"}, {"IF(#N/A,#N/A,#N/A,#N/A)", "#VALUE!"},
	})
}

func TestIferror(t *testing.T) {
	checkFormulas(t, formSheet, [][2]string{
		{"IFERROR(1,2)", "1"}, {"IFERROR(1/0,2)", "2"}, {"IFERROR(#N/A,#REF!)", "#REF!"}, {"IFERROR(\"x\",2)", `"x"`}, {"IFERROR(Z9,2)", "0"}, {"IFERROR(,2)", "0"}, {"IFERROR(#N/A,)", "0"}, {"IFERROR(1,nosuch)", "1"}, {"IFERROR(nosuch,1)", "1"}, {"IFERROR(loop,1)", "1"},
		{"IFERROR(#N/A,{1,2;3,4})", "1,2;3,4"}, {"IFERROR({#N/A},{1,2})", "1,2"}, {"IFERROR({1},{1,2})", "1"},
		{"IFERROR({1,#N/A},9)", "1,9"}, {"IFERROR({#N/A;1},{5,6})", "5,6;1,1"}, {"IFERROR({#N/A,#REF!},{5;6})", "5,5;6,6"}, {"IFERROR({1,#N/A;#REF!,4},{5,6;7,8})", "1,6;7,4"}, {"IFERROR({#N/A,1},#REF!)", "#REF!,1"}, {"IFERROR({#N/A,1},)", "0,1"}, {"IFERROR(B1:B3,0)", `"x";TRUE;0`},
		{"IFERROR({1,2},{5,6,7})", "1,2,#N/A"}, {"IFERROR({1,#REF!,3},{8,9})", "1,9,#N/A"}, {"IFERROR({1,2},{5,6;7,8;9,10})", "1,2;1,2;1,2"},
		{"ROWS(IFERROR(SEQUENCE(1000),SEQUENCE(1,2)))", "1000"}, {"IFERROR(SEQUENCE(1000),SEQUENCE(1,3))", "#VALUE!"}, {"IFERROR(SEQUENCE(1,3),SEQUENCE(1000))", "#VALUE!"},
		{"IFERROR()", "#VALUE!"}, {"IFERROR(1)", "#VALUE!"}, {"IFERROR(1,2,3)", "#VALUE!"},
	})
}

func TestLet(t *testing.T) {
	checkFormulas(t, formSheet, [][2]string{
		{"LET(a,1,a)", "1"}, {"LET(a,1,b,a+1,a+b)", "3"}, {"LET(a,A1:A2,a*10)", "20;30"}, {"LET(A_b,5,a_B)", "5"}, {"LET(a,1,5)", "5"}, {"LET(a,,ISBLANK(a))", "TRUE"}, {"LET(a,1,)", "0"}, {"LET(a,1/0,5)", "5"}, {"LET(a,1/0,a)", "#DIV/0!"}, {"LET(a,nosuch,a)", "#NAME?"}, {"LET(a,b,b,1,a)", "#NAME?"}, {"LET(a,a,a)", "#NAME?"},
		// Bound twice, and within each other: the innermost one.
		{"LET(a,1,a,2,a)", "2"}, {"LET(a,1,a,a+1,A,a+1,a)", "3"}, {"LET(a,1,LET(a,2,a)+a)", "3"}, {"LET(a,1,LET(a,a+5,a)+a)", "7"}, {"LET(a,1,b,LET(a,2,a),a+b)", "3"}, {"LET(b,LET(a,2,a),a)", "#NAME?"}, {"LET(a,1,LET(b,2,a+b))", "3"}, {"LET(a,1,LET(b,2,b)+b)", "#NAME?"},
		// A sheet's name means something else there; its own formula does not see what was bound around it.
		{"LET(base,1,base)", "1"}, {"LET(base,1,USES)", "11"}, {"LET(base,1,base+USES)", "12"}, {"LET(base,base+1,base+base)", "22"}, {"LET(seen,5,SEES)", "#NAME?"}, {"LET(seen,5,seen)", "5"}, {"LET(base,1,ADDS(5))", "15"}, {"LET(base,1,f,LAMBDA(x,x+base),f(5))", "6"}, {"LET(loop,1,loop)", "1"}, {"LET(broken,1,broken)", "1"}, {"LET(twice,5,twice)", "5"}, {"LET(twice,5,ALIAS(3))", "6"},
		// Names of functions may be bound; a call of one is the function's.
		{"LET(sum,5,sum+1)", "6"}, {"LET(sum,5,SUM(sum,1))", "6"}, {"LET(sum,LAMBDA(x,0),sum(1,2))", "3"}, {"LET(if,5,if)", "5"}, {"LET(let,5,LET(let,let+1,let))", "6"}, {"LET(lambda,LAMBDA(x,1),lambda(2))", "#VALUE!"},
		{"LET(1,2,3)", "#VALUE!"}, {"LET(A1,2,A1)", "#VALUE!"}, {"LET(A1:A2,2,3)", "#VALUE!"}, {"LET(TRUE,2,3)", "#VALUE!"}, {"LET(,2,3)", "#VALUE!"}, {"LET(\"a\",2,3)", "#VALUE!"}, {"LET(-a,2,3)", "#VALUE!"}, {"LET(a+b,2,3)", "#VALUE!"}, {"LET(a(1),2,3)", "#VALUE!"}, {"LET(a,1,2,3,a)", "#VALUE!"}, {"LET({1},1,1)", "#VALUE!"}, {"LET(#N/A,1,1)", "#VALUE!"},
		{"LET()", "#VALUE!"}, {"LET(a)", "#VALUE!"}, {"LET(a,1)", "#VALUE!"}, {"LET(a,1,b,2)", "#VALUE!"}, {"LET(a,1,b,2,a+b,7)", "#VALUE!"},
		{"LET(" + boundNames(14) + "n_1+n_14)", "15"}, {"LET(" + boundNames(14) + "1,2)", "#VALUE!"},
	})
}

// boundNames is so many names and values of LET.
func boundNames(n int) string {
	out := ""
	for i := range n {
		out += fmt.Sprintf("n_%d,%d,", i+1, i+1)
	}
	return out
}

func TestNamesOfSheets(t *testing.T) {
	checkFormulas(t, formSheet, [][2]string{
		{"BASE", "10"}, {"base", "10"}, {"Base+bASE", "20"}, {"USES", "11"}, {"CELLS", `2,"x";3,TRUE`}, {"SUM(CELLS)", "5"}, {"cells&\"!\"", `"2!","x!";"3!","TRUE!"`}, {"SEES", "#NAME?"}, {"BROKEN", "#NAME?"}, {"nosuch", "#NAME?"}, {"IFERROR(BROKEN,5)", "5"},
		// One that is being evaluated already; when it has been evaluated it may be asked for again.
		{"LOOP", "#CYCLE!"}, {"IFERROR(LOOP,5)", "5"}, {"LOOP&LOOP", "#CYCLE!"}, {"PING", "3"}, {"PONG", "3"}, {"PING+PING", "6"}, {"IFERROR(PONG,PING)", "3"}, {"SELF", "#CYCLE!"}, {"GROUND", "#CYCLE!"}, {"ROUNDED(1)", "#CYCLE!"}, {"base+base+base", "30"}, {"MAP({1,2},LAMBDA(x,x+base))", "11,12"},
		{"DOWN(5)", "5"}, {"EVEN(10)", "TRUE"}, {"EVEN(7)", "FALSE"}, {"ODD(7)", "TRUE"},
	})
}

func TestLambda(t *testing.T) {
	nine := "LAMBDA(a,b,d,e,f,g,h,i,j,a&b&d&e&f&g&h&i&j)"
	checkFormulas(t, formSheet, [][2]string{
		{"TWICE(4)", "8"}, {"twice(A1:A2)", "4;6"}, {"TWICE({1,2;3,4})", "2,4;6,8"}, {"TWICE(TWICE(3))", "12"}, {"ALIAS(4)", "8"}, {"NONE()", "7"}, {"SAME(Z9)", "0"}, {"ISBLANK(SAME(Z9))", "TRUE"}, {"SAME(#N/A)", "#N/A"}, {"ROWS(SAME(A1:B1000))", "1000"}, {"TWICE(B1)", "#VALUE!"}, {"TWICE(,)", "#VALUE!"},
		{"LET(f,LAMBDA(x,x+1),f(1))", "2"}, {"LET(f,LAMBDA(x,y,x-y),f(10,A1))", "8"}, {"LET(f,LAMBDA(x,x+1),g,f,g(1))", "2"}, {"LET(f,TWICE,f(4))", "8"}, {"LET(f,ALIAS,f(4))", "8"}, {"LET(f,LAMBDA(5),f())", "5"}, {"LET(f,LAMBDA(5),f()+f())", "10"}, {"LET(f,LAMBDA(x,f),1)", "1"}, {"LET(base,TWICE,base(3))", "6"}, {"LET(f,(LAMBDA(x,x)),f(1))", "1"}, {"LET(f,LAMBDA(x,),f(1))", "0"},
		{"LET(f," + nine + ",f(1,2,3,4,5,6,7,8,9))", `"123456789"`}, {"LET(f,LAMBDA(a,b,d,e,f,g,h,i,j,k,a),f(1,2,3,4,5,6,7,8,9,10))", "#NAME?"}, {"MAP({1},LAMBDA(a,b,d,e,f,g,h,i,j,k,a))", "#VALUE!"},
		// The names that were bound where it stands, and its own ones ahead of them.
		{"LET(k,2,f,LAMBDA(x,x*k),k,10,f(3))", "6"}, {"LET(x,1,f,LAMBDA(x,x+1),f(10)+x)", "12"}, {"LET(k,2,f,LAMBDA(x,LET(k,5,x*k)),f(3)+k)", "17"}, {"LET(f,LAMBDA(x,x*k),k,2,f(3))", "#NAME?"}, {"LET(f,LAMBDA(x,LET(g,LAMBDA(y,x+y),g(10))),f(1))", "11"}, {"LET(x,1,f,LAMBDA(y,x+y),g,LAMBDA(x,f(x)),g(10))", "11"}, {"LET(f,LAMBDA(a,b,LET(a,b,b,a,a&b)),f(1,2))", `"22"`}, {"LET(f,LAMBDA(base,base+USES),f(1))", "12"}, {"LET(f,LAMBDA(twice,twice+1),f(1))", "2"}, {"LET(f,LAMBDA(sum,SUM(sum,1)),f(1))", "2"}, {"LET(f,LAMBDA(X,x),f(1))", "1"},
		// Bound only behind its value: so it does not find itself.
		{"LET(f,LAMBDA(x,IF(x<1,0,f(x-1))),f(2))", "#NAME?"}, {"LET(f,LAMBDA(x,IF(x<1,0,f(x-1))),f(0))", "0"}, {"LET(f,LAMBDA(x,1),f,LAMBDA(x,f(x)+1),f(0))", "2"},
		{"LAMBDA(x,x)", "#VALUE!"}, {"LAMBDA(1)", "#VALUE!"}, {"LAMBDA()", "#VALUE!"}, {"ISERROR(LAMBDA(x,x))", "TRUE"}, {"TWINS(1,2)", "#NAME?"}, {"LET(f,LAMBDA(x,x,x),f(1,2))", "#NAME?"}, {"LET(f,LAMBDA(x,y,X,x),5)", "5"}, {"LET(f,LAMBDA(x,x,x),f)", "#VALUE!"}, {"MAP({1,2},LAMBDA(x,X,x))", "#VALUE!"},
		{"MAP({1},LAMBDA(1,2))", "#VALUE!"}, {"MAP({1},LAMBDA(A1,2))", "#VALUE!"}, {"MAP({1},LAMBDA(,2))", "#VALUE!"}, {"MAP({1},LAMBDA(TRUE,2))", "#VALUE!"}, {"MAP({1},LAMBDA(x+1,2))", "#VALUE!"}, {"MAP({1},LAMBDA(f(x),2))", "#VALUE!"}, {"MAP({1},LAMBDA(\"x\",2))", "#VALUE!"}, {"MAP({1},LAMBDA())", "#VALUE!"},
	})
}

// TestWhereFunctionsStand: where a grid is wanted a function value is #VALUE!, and where one is wanted a grid is none.
func TestWhereFunctionsStand(t *testing.T) {
	var formulas [][2]string
	for _, f := range []string{"TWICE", "LAMBDA(x,x*2)"} {
		for _, c := range [][2]string{
			{"F", "#VALUE!"}, {"F+1", "#VALUE!"}, {"1+F", "#VALUE!"}, {"F&F", "#VALUE!"}, {"-F", "#VALUE!"}, {"F%", "#VALUE!"}, {"F=F", "#VALUE!"}, {"SUM(F)", "#VALUE!"}, {"ISERROR(F)", "TRUE"}, {"ROWS(F)", "1"}, {"COUNTA(F)", "1"}, {"ABS(1,F)", "#VALUE!"},
			{"IF(F,1,2)", "#VALUE!"}, {"IF(TRUE,F,1)", "#VALUE!"}, {"IF(FALSE,1,F)", "#VALUE!"}, {"IF({TRUE,FALSE},F,1)", "#VALUE!,1"}, {"IFERROR(F,3)", "3"}, {"IFERROR(1/0,F)", "#VALUE!"}, {"IFERROR({1,#N/A},F)", "1,#VALUE!"}, {"LET(a,1,F)", "#VALUE!"}, {"LET(a,F,a)", "#VALUE!"}, {"LET(a,F,a+1)", "#VALUE!"}, {"LET(a,F,b,a,IFERROR(b,5))", "5"}, {"LET(a,F,5)", "5"}, {"LET(a,F,a(4))", "8"}, {"LET(a,F,b,a,b(4))", "8"},
			{"TWICE(F)", "#VALUE!"}, {"SAME(F)", "#VALUE!"}, {"LET(g,LAMBDA(h,h(1)),g(F))", "#NAME?"}, {"LET(g,LAMBDA(h,ISERROR(h)),g(F))", "TRUE"}, {"LET(g,LAMBDA(x,F),g(1))", "#VALUE!"}, {"LET(g,LAMBDA(F),g())", "#VALUE!"}, {"LET(a,F,g,LAMBDA(x,a(x)),g(3))", "6"}, {"LET(a,F,g,LAMBDA(x,a),g(3))", "#VALUE!"},
			{"LET(a,LET(b,F,b),a(1))", "#NAME?"}, {"LET(a,IF(TRUE,F),a(1))", "#NAME?"}, {"LET(a,IFERROR(F,1),a(1))", "#NAME?"}, {"LET(a,-F,a(1))", "#NAME?"}, {"LET(a,CHOOSE(1,F),a(1))", "#NAME?"}, {"MAP({1},IF(TRUE,F))", "#VALUE!"}, {"MAP({1},LET(a,F,a))", "#VALUE!"}, {"LET(a,F,MAP({1,2},a))", "2,4"},
			{"MAP(F,F)", "#VALUE!"}, {"MAP(F,LAMBDA(x,ISERROR(x)))", "TRUE"}, {"MAP({1,2;3,4},F)", "2,4;6,8"}, {"REDUCE(F,{1,2},LAMBDA(a,b,b))", "2"}, {"REDUCE(F,{1,2},LAMBDA(a,b,a))", "#VALUE!"}, {"REDUCE(0,F,LAMBDA(a,b,b))", "#VALUE!"}, {"REDUCE(0,{1,2},F)", "#VALUE!"}, {"BYROW(F,LAMBDA(x,1))", "1"}, {"BYROW({1,2;3,4},F)", "2;6"},
		} {
			formulas = append(formulas, [2]string{replacedWord(c[0], "F", f), c[1]})
		}
	}
	checkFormulas(t, formSheet, formulas)
	checkFormulas(t, formSheet, [][2]string{
		// A name whose formula is a name that means a function value means it, too; what only holds one does not.
		{"ALIAS", "#VALUE!"}, {"MAP({1,2},ALIAS)", "2,4"}, {"INNER(1)", "#NAME?"}, {"INNER", "#VALUE!"}, {"MAP({1},INNER)", "#VALUE!"}, {"MINUSES(1)", "#NAME?"}, {"MINUSES", "#VALUE!"}, {"MAP({1},MINUSES)", "#VALUE!"},
		{"MAP({1,2},5)", "#VALUE!"}, {"MAP({1,2},)", "#VALUE!"}, {"MAP({1,2},A1)", "#VALUE!"}, {"MAP({1,2},BASE)", "#VALUE!"}, {"MAP({1,2},nosuch)", "#VALUE!"}, {"MAP({1,2},BROKEN)", "#VALUE!"}, {"MAP({1,2},LOOP)", "#VALUE!"}, {"MAP({1,2},ABS)", "#VALUE!"}, {"MAP({1,2},TWICE(1))", "#VALUE!"}, {"MAP({1,2},#N/A)", "#VALUE!"}, {"MAP(#N/A,5)", "#VALUE!"}, {"LET(x,5,MAP({1,2},x))", "#VALUE!"}, {"LET(twice,5,MAP({1,2},twice))", "#VALUE!"},
		{"REDUCE(0,{1,2},5)", "#VALUE!"}, {"REDUCE(0,{1,2},)", "#VALUE!"}, {"REDUCE(0,{1,2},nosuch)", "#VALUE!"}, {"BYROW({1,2},5)", "#VALUE!"}, {"BYROW({1,2},)", "#VALUE!"}, {"BYROW({1;2},nosuch)", "#VALUE!"},
	})
}

// replacedWord puts one text in for a word that stands alone.
func replacedWord(text, word, by string) string {
	isPart := func(b byte) bool { return b >= 'A' && b <= 'Z' || b >= 'a' && b <= 'z' || b == '_' }
	out := ""
	for i := 0; i < len(text); i++ {
		alone := strings.HasPrefix(text[i:], word) && (i == 0 || !isPart(text[i-1])) && (i+len(word) == len(text) || !isPart(text[i+len(word)]))
		if alone {
			out += by
			i += len(word) - 1
			continue
		}
		out += text[i : i+1]
	}
	return out
}

func TestCalls(t *testing.T) {
	checkFormulas(t, formSheet, [][2]string{
		// What the name is goes first, then the arguments, then how many there are.
		{"NOSUCH(1)", "#NAME?"}, {"BROKEN(1)", "#NAME?"}, {"BASE(1)", "#NAME?"}, {"LOOP(1)", "#NAME?"}, {"SEES(1)", "#NAME?"}, {"CELLS()", "#NAME?"}, {"LET(a,5,a(1))", "#NAME?"}, {"LET(a,#N/A,a(1))", "#NAME?"}, {"LET(twice,5,twice(1))", "#NAME?"}, {"NOSUCH(1/0)", "#NAME?"},
		{"TWICE()", "#VALUE!"}, {"TWICE(1,2)", "#VALUE!"}, {"TWICE(1,)", "#VALUE!"}, {"TWICE(1/0,2)", "#VALUE!"}, {"NONE(1)", "#VALUE!"}, {"NONE(1,2)", "#VALUE!"}, {"LET(f,LAMBDA(x,y,x),f(1))", "#VALUE!"}, {"LET(f,LAMBDA(x,y,x),f(1,2,3))", "#VALUE!"}, {"LET(f,LAMBDA(x,y,ISBLANK(x)),f(,2))", "TRUE"},
	})
}

func TestMapReduceByrow(t *testing.T) {
	checkFormulas(t, formSheet, [][2]string{
		{"MAP({1,2;3,4},LAMBDA(x,x*x))", "1,4;9,16"}, {"MAP(5,LAMBDA(x,x+1))", "6"}, {"MAP(A1:B3,LAMBDA(x,ISERROR(x)))", "FALSE,FALSE;FALSE,FALSE;FALSE,TRUE"}, {"MAP(Y1:Z1,LAMBDA(x,ISBLANK(x)))", "TRUE,TRUE"}, {"MAP(Y1:Z1,LAMBDA(x,x))", "0,0"}, {"MAP(,LAMBDA(x,ISBLANK(x)))", "TRUE"}, {"MAP({1,2},LAMBDA(x,{5,6}+x))", "6,7"}, {"MAP({1,2},LAMBDA(x,CELLS))", "2,2"}, {"MAP({1,2,3},LAMBDA(x,IF(x=2,#N/A,x)))", "1,#N/A,3"}, {"MAP({1,2},LAMBDA(x,ROWS(x)&COLUMNS(x)))", `"11","11"`},
		{"MAP({1,2},LAMBDA(x,y,x))", "#VALUE!,#VALUE!"}, {"MAP({1;2},LAMBDA(9))", "#VALUE!;#VALUE!"}, {"MAP({1,2},LAMBDA(x,SUM(MAP({10,20},LAMBDA(y,x+y)))))", "32,34"}, {"ROWS(MAP(SEQUENCE(2000),LAMBDA(x,x)))", "2000"}, {"MAP(A1:C1000,LAMBDA(x,ISERROR(x)))", "TRUE"}, {"MAP({1,2},LAMBDA(x,))", "0,0"},
		{"MAP()", "#VALUE!"}, {"MAP({1})", "#VALUE!"}, {"MAP({1},{2},LAMBDA(x,y,x+y))", "#VALUE!"},
		{"REDUCE(0,{1,2;3,4},LAMBDA(a,b,a+b))", "10"}, {"REDUCE(100,{1,2;3,4},LAMBDA(a,b,a-b))", "90"}, {"REDUCE(\"\",{\"a\",\"b\";\"c\",\"d\"},LAMBDA(a,b,a&b))", `"abcd"`}, {"REDUCE({1,2},{10;20},LAMBDA(a,b,a+b))", "31,32"}, {"REDUCE(0,{1,2},LAMBDA(a,b,VSTACK(a,b)))", "0;1;2"}, {"REDUCE(,{1,2},LAMBDA(a,b,ISBLANK(a)))", "FALSE"}, {"REDUCE(,{1},LAMBDA(a,b,ISBLANK(a)))", "TRUE"}, {"REDUCE(1,Z9,LAMBDA(a,b,b))", "0"}, {"REDUCE(1,Z9,LAMBDA(a,b,ISBLANK(b)))", "TRUE"}, {"REDUCE(5,{1,#N/A,2},LAMBDA(a,b,a+b))", "#N/A"}, {"REDUCE(5,{1,#N/A,2},LAMBDA(a,b,IFERROR(a+b,0)))", "2"}, {"REDUCE(0,{1,2},LAMBDA(a,b,b-a))", "1"},
		{"REDUCE(0,{1,2},LAMBDA(a,a))", "#VALUE!"}, {"REDUCE(0,{1,2},LAMBDA(a,b,d,a))", "#VALUE!"}, {"REDUCE(0,{1,2},LAMBDA(1))", "#VALUE!"}, {"REDUCE(#N/A,{1,2},LAMBDA(a,b,1))", "1"}, {"COUNTA(REDUCE(0,SEQUENCE(1999),LAMBDA(a,b,VSTACK(a,b))))", "2000"}, {"REDUCE(0,SEQUENCE(2000),LAMBDA(a,b,VSTACK(a,b)))", "#VALUE!"},
		{"REDUCE()", "#VALUE!"}, {"REDUCE({1},LAMBDA(a,b,a))", "#VALUE!"}, {"REDUCE(1,{1},LAMBDA(a,b,a),1)", "#VALUE!"},
		{"BYROW({1,2;3,4},LAMBDA(x,SUM(x)))", "3;7"}, {"BYROW({1,2;3,4},LAMBDA(x,x))", "1;3"}, {"BYROW({1,2;3,4},LAMBDA(x,ROWS(x)&COLUMNS(x)))", `"12";"12"`}, {"BYROW({1,2,3},LAMBDA(x,SUM(x)))", "6"}, {"BYROW({1;2;3},LAMBDA(x,x*x))", "1;4;9"}, {"BYROW(5,LAMBDA(x,x+1))", "6"}, {"BYROW(A1:B3,LAMBDA(x,IFERROR(CONCAT(x),\"-\")))", `"2x";"3TRUE";"-"`}, {"BYROW({1,2;3,4},LAMBDA(x,y,1))", "#VALUE!;#VALUE!"}, {"BYROW({1,2;3,4},LAMBDA(1))", "#VALUE!;#VALUE!"}, {"BYROW(Y1:Z2,LAMBDA(x,x))", "0;0"},
		{"BYROW()", "#VALUE!"}, {"BYROW({1})", "#VALUE!"}, {"BYROW({1},LAMBDA(x,x),1)", "#VALUE!"},
	})
}

// burnt is an expression that takes so many evaluations: 5, and 11 for each call; the rest are signs ahead of it.
func burnt(steps int) string {
	return fmt.Sprintf("%sREDUCE(0,SEQUENCE(%d),LAMBDA(a,b,a+0+0+0+0+0))", strings.Repeat("-", (steps-5)%11), (steps-5)/11)
}

// TestWhatCountsAsAStep burns so many evaluations that behind the expression one is left, or none.
func TestWhatCountsAsAStep(t *testing.T) {
	s := sheetOf(formSheet + " | LOOKS: =A1 | TEN: =1+2+3+4+5")
	for _, c := range []stepped{
		{"1", 1}, {"\"a\"", 1}, {"TRUE", 1}, {"#N/A", 1}, {"A1", 1}, {"A1:B2", 1}, {"A1:B1000", 1}, {"A1:C1000", 1}, {"-1", 2}, {"--1", 3}, {"1%", 2}, {"1+2", 3}, {"1+2*3", 5}, {"(1)", 1}, {"((1+2))", 3}, {"1/0+1", 5}, {"#N/A+1", 3},
		{"{1}", 2}, {"{1,2;3,4}", 5}, {"{-1,2}", 4}, {"{TRUE,\"a\",#N/A}", 4}, {"SUM(1,2)", 3}, {"SUM(1,,2)", 4}, {"SUM()", 1}, {"ABS(1,2)", 3}, {"ROUND(1/0)", 4}, {"SEQUENCE(2000)", 2}, {"SEQUENCE(2000)+1", 4},
		{"nosuch", 1}, {"NOSUCH(1+1)", 1}, {"BROKEN", 1}, {"BROKEN(1)", 1}, {"BASE", 2}, {"USES", 4 + 1}, {"BASE+BASE", 5}, {"SEES", 2}, {"LOOKS", 2}, {"TEN", 10}, {"LOOP", 4}, {"LOOP(1)", 4}, {"PING", 5}, {"BASE(1+1)", 2},
		{"IF(TRUE,1,2+2)", 3}, {"IF(FALSE,1+1,2)", 3}, {"IF(FALSE,1+1)", 2}, {"IF(1/0,1,2)", 4}, {"IF(TRUE,,1+1)", 3}, {"IF({TRUE,FALSE},1+1,2)", 1 + 3 + 3 + 1}, {"IF({TRUE,TRUE},1+1,2+2)", 1 + 3 + 3 + 3}, {"IF({TRUE,TRUE},1)", 5}, {"IF({TRUE},1,2+2)", 4}, {"IF({#N/A,#N/A},1,2)", 6},
		{"IFERROR(1,1+1)", 2}, {"IFERROR(#N/A,1+1)", 5}, {"IFERROR({1,2},1+1)", 7}, {"IFERROR({1,#N/A},1+1)", 7}, {"IFERROR({1},1+1)", 3}, {"IFERROR(SEQUENCE(2000),1)", 4},
		{"LET(a,1,a)", 3}, {"LET(a,1,b,2,a+b)", 6}, {"LET(a,1+1,5)", 5}, {"LET(a,1+1,1,2,3)", 4}, {"LET(1,2+2,3)", 1}, {"LET(a,BASE,a+a)", 1 + 2 + 3}, {"LET(a,TWICE,5)", 1 + 2 + 1}, {"LET(a,LAMBDA(x,x+x+x),5)", 3},
		{"LAMBDA(x,x)", 1}, {"LAMBDA(x,x,x)", 1}, {"LAMBDA(1,2)", 1}, {"TWICE", 2}, {"ALIAS", 3}, {"TWICE+1", 4},
		{"TWICE(1)", 1 + 1 + 1 + 3}, {"TWICE(1+1)", 1 + 1 + 3 + 3}, {"TWICE(1,2)", 4}, {"TWICE()", 2}, {"NONE()", 3}, {"NONE(1)", 3}, {"ALIAS(1)", 1 + 2 + 1 + 3}, {"LET(f,LAMBDA(x,x),f(1))", 5}, {"LET(f,LAMBDA(x,x),f(1)+f(2))", 1 + 1 + 1 + 3 + 3}, {"DOWN(1)", 3 + 5}, {"DOWN(2)", 3 + 4 + 3 + 4 + 5}, {"ADDS(1)", 3 + 4},
		{"MAP({1,2},LAMBDA(x,x+1))", 1 + 3 + 1 + 6}, {"MAP({1,2},5)", 5}, {"MAP({1,2},LAMBDA(x,y,x))", 5}, {"MAP({1,2},TWICE)", 1 + 3 + 2 + 6}, {"MAP({1,2},)", 5}, {"REDUCE(0,{1,2},LAMBDA(a,b,a+b))", 1 + 1 + 3 + 1 + 6}, {"REDUCE(0,{1,2},LAMBDA(a,a))", 6}, {"REDUCE(1+1,{1,2},7)", 1 + 3 + 3 + 1}, {"BYROW({1,2;3,4},LAMBDA(x,SUM(x)))", 1 + 5 + 1 + 4}, {"BYROW({1;2},LAMBDA(x,y,x))", 5},
		{"IF(1+1)", 1}, {"IF(1+1,1,1,1)", 1}, {"IFERROR(1+1)", 1}, {"IFERROR(1/0,1,1)", 1}, {"LET(a,1+1)", 1}, {"LET(a,1+1,b,2)", 1}, {"LAMBDA()", 1}, {"MAP(1+1)", 1}, {"MAP(1+1,2,3)", 1}, {"REDUCE(1+1,2)", 1}, {"BYROW(1+1)", 1}, {"BYROW(1+1,2,3)", 1},
	} {
		c.check(t, s)
	}
	// What the cells that it needs take counts for nothing.
	s = sheetOf("A1: =" + burnt(19000) + " | HEAVY: =A1")
	for _, c := range []stepped{{"A1", 1}, {"HEAVY", 2}, {"A1+A1+HEAVY", 6}} {
		c.check(t, s)
	}
}

// stepped is an expression, and how many evaluations it takes.
type stepped struct {
	text  string
	steps int
}

func (c stepped) check(t *testing.T, s impl.Sheet) {
	t.Helper()
	for left, want := range []impl.Value{noNumber, numVal("5")} {
		// LET, what is burnt, the expression, and what is left for the 5.
		text := fmt.Sprintf("=LET(z_,%s,y_,%s,5)", burnt(20000-1-c.steps-left), c.text)
		wantSingle(t, "EvalFormula", text, impl.EvalFormula(s, 1, 1, text), want)
	}
}

func TestTheLastSteps(t *testing.T) {
	s := sheetOf(formSheet)
	at := func(left int, text string) string { return "=LET(z_," + burnt(19999-left) + "," + text + ")" }
	for _, c := range []struct {
		left       int
		text, want string
	}{
		// Left sides go first.
		{2, "#N/A+5", "#N/A"}, {2, "5+#N/A", "#NUM!"}, {2, "#N/A&5", "#N/A"}, {2, "COUNT(7,7)", "1"}, {2, "SUM(#N/A,7)", "#N/A"},
		{1, "5", "5"}, {0, "5", "#NUM!"}, {3, "1+2", "3"}, {2, "1+2", "#NUM!"}, {1, "1+2", "#NUM!"}, {2, "\"a\"&1", "#NUM!"}, {3, "IF(TRUE,1,2)", "1"}, {2, "IF(TRUE,1,2)", "#NUM!"}, {1, "IF(TRUE,1,2)", "#NUM!"},
		// Of an array the values that are evaluated beyond them, alone.
		{5, "{1,2;3,4}", "1,2;3,4"}, {4, "{1,2;3,4}", "1,2;3,#NUM!"}, {2, "{1,2;3,4}", "1,#NUM!;#NUM!,#NUM!"}, {1, "{1,2;3,4}", "#NUM!,#NUM!;#NUM!,#NUM!"}, {0, "{1,2;3,4}", "#NUM!"}, {2, "{-1,2}", "#NUM!,#NUM!"}, {3, "{-1,2}", "-1,#NUM!"},
		{2, "ISERROR(1+1)", "TRUE"}, {4, "ISERROR(1+1)", "FALSE"}, {2, "ROWS(SEQUENCE(5))", "1"}, {1, "COUNTA(1,2,3)", "3"}, {1, "COUNT(1,2,3)", "0"}, {3, "COUNT(1,2,3)", "2"}, {3, "IFERROR(1/0,7)", "#NUM!"}, {5, "IFERROR(1/0,7)", "7"}, {2, "IFERROR(1,7)", "1"},
		// What should be a function and is evaluated beyond them is none.
		{4, "MAP({1,2},LAMBDA(x,x))", "#VALUE!"}, {5, "MAP({1,2},LAMBDA(x,x))", "#NUM!,#NUM!"}, {6, "MAP({1,2},LAMBDA(x,x))", "1,#NUM!"}, {7, "MAP({1,2},LAMBDA(x,x))", "1,2"}, {1, "TWICE(1)", "#NAME?"}, {2, "TWICE(1)", "#NUM!"}, {5, "TWICE(1)", "#NUM!"}, {6, "TWICE(1)", "2"}, {1, "LET(f,LAMBDA(x,1),f(1))", "#NUM!"}, {2, "LET(f,LAMBDA(x,1),f(1))", "#NUM!"}, {1, "LET(f,LAMBDA(x,1),1,2,3)", "#VALUE!"},
		{7, "REDUCE(0,{1,2},LAMBDA(a,b,b))", "#NUM!"}, {8, "REDUCE(0,{1,2},LAMBDA(a,b,b))", "2"}, {5, "BYROW({1;2},LAMBDA(x,x))", "#NUM!;#NUM!"}, {6, "BYROW({1;2},LAMBDA(x,x))", "1;#NUM!"}, {1, "BASE", "#NUM!"}, {1, "nosuch", "#NAME?"}, {0, "nosuch", "#NUM!"}, {0, "A1:C1000", "#NUM!"}, {1, "A1:C1000", "#VALUE!"},
	} {
		if got := gridMarks(impl.EvalFormula(s, 1, 1, at(c.left, c.text))); got != c.want {
			t.Errorf("%s with %d left gives %s, want %s", c.text, c.left, got, c.want)
		}
	}
	// Each cell's formula has its own, and each round's.
	checkSheets(t, [][2]string{
		{"A1: =" + burnt(20000) + " | A2: =" + burnt(20000) + "+A1 | A3: =" + burnt(19998) + "+A1", "A1=0 A2=#NUM! A3=0"},
		{"A1: =" + burnt(20000) + " | B1: ={1,2} | A2: =" + burnt(19998) + "+C1", "A1=0 B1=1 C1~2 A2=2"},
		{"A1: =" + burnt(20001) + " | A2: =IFERROR(A1,5)", "A1=#NUM! A2=5"},
	})
	// An evaluation that would never end.
	checkFormulas(t, "FIB: =LAMBDA(n,IF(n<2,n,fib(n-1)+fib(n-2))) | MANY: =LAMBDA(n,SUM(MAP(SEQUENCE(2000),LAMBDA(x,many(n)))))", [][2]string{{"FIB(15)", "610"}, {"FIB(40)", "#NUM!"}, {"MANY(1)", "#NUM!"}})
}

func TestCallsWithinEachOther(t *testing.T) {
	checkFormulas(t, formSheet, [][2]string{
		{"DOWN(60)", "60"}, {"DOWN(61)", "#NUM!"}, {"DOWN(1000)", "#NUM!"}, {"EVEN(59)", "FALSE"}, {"EVEN(60)", "#NUM!"},
		// Those that have ended count no more, nor do arguments.
		{"DOWN(60)+DOWN(60)", "120"}, {"DOWN(DOWN(60))", "60"}, {"IFERROR(DOWN(61),DOWN(60))", "60"}, {"IFERROR(DOWN(61),DOWN(61))", "#NUM!"}, {"TWICE(DOWN(60))", "120"}, {"SUM(MAP({60,60},LAMBDA(x,1)),DOWN(60))", "62"},
		// Those of MAP, REDUCE and BYROW do.
		{"MAP({60,61,60},DOWN)", "60,#NUM!,60"}, {"MAP({59,60},LAMBDA(x,DOWN(x)))", "59,#NUM!"}, {"BYROW({60;61},DOWN)", "60;#NUM!"}, {"REDUCE(0,{59,60},LAMBDA(a,b,DOWN(b)))", "#NUM!"}, {"REDUCE(0,{60,59},LAMBDA(a,b,DOWN(b)))", "59"}, {"LET(f,LAMBDA(x,DOWN(x)),f(59))", "59"}, {"LET(f,LAMBDA(x,DOWN(x)),f(60))", "#NUM!"},
		// How many arguments there are goes ahead of it.
		{"LET(f,LAMBDA(n,TWICE()),f(1))", "#VALUE!"},
	})
	deep := sheetOf("DEEP: =LAMBDA(n,IF(n<=1,leaf(1,2),deep(n-1))) | LEAF: =LAMBDA(x,x)")
	for n, want := range map[int]impl.Value{59: notThis, 60: notThis, 61: noNumber} {
		text := fmt.Sprintf("=DEEP(%d)", n)
		wantSingle(t, "EvalFormula", text, impl.EvalFormula(deep, 1, 1, text), want)
	}
}

// TestNamesOfEverySize binds names of one to twenty bytes, and takes none that is longer.
func TestNamesOfEverySize(t *testing.T) {
	for n := 1; n <= 21; n++ {
		name := letters(n)
		want := "7"
		if n > 20 {
			want = "#NAME?"
		}
		checkFormulas(t, "A1: 7", [][2]string{{"LET(" + name + ",A1," + strings.ToUpper(name) + ")", want}, {"LET(f,LAMBDA(" + name + "," + name + "),f(A1))", want}})
	}
}
