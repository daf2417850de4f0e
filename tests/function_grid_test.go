package tests

import (
	"slices"
	"testing"

	"loop.example/g00025/impl"
)

func TestIndex(t *testing.T) {
	const three = "3,c;1,a;2,b"
	checkCalls(t, [][]string{
		{"INDEX", "b", three, "3", "2"}, {"INDEX", "3", three, "1", "1"}, {"INDEX", "3;1;2", three, "0", "1"}, {"INDEX", "c;a;b", three, "0", "2"}, {"INDEX", "1,a", three, "2", "0"}, {"INDEX", "1,a", three, "2"}, {"INDEX", three, three, "0", "0"}, {"INDEX", three, three, "0"}, {"INDEX", "1", three, "2.9", "'1"}, {"INDEX", three, three, "", ""}, {"INDEX", "a", three, "2,#N/A", "2,x"}, {"INDEX", three, three, "-0.9", "0.9"},
		{"INDEX", "#REF!", three, "4", "1"}, {"INDEX", "#REF!", three, "1", "3"}, {"INDEX", "#REF!", three, "4"}, {"INDEX", "#REF!", three, "0", "3"}, {"INDEX", "#REF!", three, "4", "0"}, {"INDEX", "#VALUE!", three, "-1", "1"}, {"INDEX", "#VALUE!", three, "1", "-1"}, {"INDEX", "#VALUE!", three, "9", "-1"}, {"INDEX", "#VALUE!", three, "-1", "9"}, {"INDEX", "#VALUE!", three, "-1"}, {"INDEX", "#REF!", three, "1E15", "1"},
		{"INDEX", "#VALUE!", three, "x", "#N/A"}, {"INDEX", "#NUM!", three, "1E30", "#N/A"}, {"INDEX", "#N/A", three, "-1", "#N/A"}, {"INDEX", "#NUM!", three, "-1", "1E30"}, {"INDEX", "#REF!", three, "#REF!", "x"},
		// In a grid of one row a single number counts columns.
		{"INDEX", "2", "1,2,3", "2"}, {"INDEX", "3", "1,2,3", "3"}, {"INDEX", "#REF!", "1,2,3", "4"}, {"INDEX", "1,2,3", "1,2,3", "0"}, {"INDEX", "#VALUE!", "1,2,3", "-1"}, {"INDEX", "1,2,3", "1,2,3", "1", "0"}, {"INDEX", "1,2,3", "1,2,3", "0", "0"}, {"INDEX", "2", "1,2,3", "0", "2"}, {"INDEX", "#REF!", "1,2,3", "2", "1"}, {"INDEX", "5", "5", "1"}, {"INDEX", "5", "5", "0"}, {"INDEX", "#REF!", "5", "2"},
		{"INDEX", "2", "1;2;3", "2"}, {"INDEX", "1;2;3", "1;2;3", "0"}, {"INDEX", "#REF!", "1;2;3", "1", "2"},
		// Errors and empty cells are given as they are.
		{"INDEX", "#N/A", "1,#N/A;,2", "1", "2"}, {"INDEX", "", "1,#N/A;,2", "2", "1"}, {"INDEX", "2", "1,#N/A;,2", "2", "2"},
	})
}

func TestMatch(t *testing.T) {
	checkCalls(t, [][]string{
		// Equal ones.
		{"MATCH", "2", "b", "a;B;c", "0"}, {"MATCH", "1", "1", "1,2,1", "0"}, {"MATCH", "3", "5", "9,1,5,5", "0"}, {"MATCH", "#N/A", "6", "9,1,5", "0"}, {"MATCH", "#N/A", "1", "'1,TRUE", "0"}, {"MATCH", "3", "1", "'1,TRUE,1", "0"}, {"MATCH", "2", "TRUE", "1,TRUE", "0"}, {"MATCH", "3", "5", "#N/A,#REF!,5", "0"}, {"MATCH", "#N/A", "5", "#N/A", "0"}, {"MATCH", "2", "0", "1,,0", "0"}, {"MATCH", "1", "", "0,", "0"}, {"MATCH", "1", "", "',0", "0"}, {"MATCH", "2", "", "1,FALSE", "0"}, {"MATCH", "2", "'", "0,", "0"}, {"MATCH", "1", "5", "5", "0"},
		// Rising ones: as far as they rise, and are not above.
		{"MATCH", "2", "25", "10,20,30,5"}, {"MATCH", "2", "25", "10;20;30;5", "1"}, {"MATCH", "2", "20", "10,20,30"}, {"MATCH", "3", "20", "10,20,20,30"}, {"MATCH", "3", "99", "10,20,30"}, {"MATCH", "#N/A", "9", "10,20,30"}, {"MATCH", "1", "10", "10,20,30"}, {"MATCH", "2", "99", "10,20,15,30", "1"}, {"MATCH", "1", "99", "30,20,10"}, {"MATCH", "#N/A", "1", "30,20,10"}, {"MATCH", "3", "25", "10,#N/A,20,30"}, {"MATCH", "3", "25", "#N/A,10,20,#REF!"}, {"MATCH", "#N/A", "25", "#N/A,#REF!"}, {"MATCH", "4", "99", "10,20,#N/A,20"}, {"MATCH", "2", "99", "10,20,#N/A,19,50"},
		{"MATCH", "2", "99", "1,2,a,TRUE"}, {"MATCH", "3", "b", "1,2,a,TRUE"}, {"MATCH", "4", "TRUE", "1,2,a,TRUE"}, {"MATCH", "3", "FALSE", "1,2,a,TRUE"}, {"MATCH", "1", "A", "a,b"}, {"MATCH", "3", "5", "-1,,5,9", "TRUE"}, {"MATCH", "1", "", "-1,1"},
		// Falling ones.
		{"MATCH", "1", "25", "30,20,10", "-1"}, {"MATCH", "2", "20", "30,20,10", "-1"}, {"MATCH", "3", "20", "30,20,20,10", "-1"}, {"MATCH", "3", "1", "30,20,10", "-1"}, {"MATCH", "#N/A", "31", "30,20,10", "-1"}, {"MATCH", "1", "5", "10,20,30", "-1"}, {"MATCH", "2", "1", "30,20,25,10", "-1"}, {"MATCH", "3", "1", "30,#N/A,20,25", "-1"}, {"MATCH", "2", "2", "TRUE,a,1", "-1"}, {"MATCH", "1", "TRUE", "TRUE,a,1", "-1"},
		// Modes.
		{"MATCH", "1", "5", "5,6", "0.9"}, {"MATCH", "2", "9", "5,6", "1.9"}, {"MATCH", "2", "5", "6,5", "-1.9"}, {"MATCH", "1", "5", "5,6", ""}, {"MATCH", "1", "5", "5,6", "FALSE"}, {"MATCH", "1", "5", "5,6", "'0"}, {"MATCH", "#VALUE!", "5", "5,6", "2"}, {"MATCH", "#VALUE!", "5", "5,6", "-2"}, {"MATCH", "#VALUE!", "5", "5,6", "x"}, {"MATCH", "#NUM!", "5", "5,6", "1E30"}, {"MATCH", "#VALUE!", "5", "5,6;7,8", "2"}, {"MATCH", "#VALUE!", "5", "5", "1E15"},
		{"MATCH", "#N/A", "5", "5,6;7,8", "0"}, {"MATCH", "#N/A", "5", "5,6;7,8"}, {"MATCH", "#REF!", "#REF!", "5,6;7,8", "2"}, {"MATCH", "#REF!", "#REF!", "5", "#NULL!"}, {"MATCH", "#NULL!", "5", "5,6;7,8", "#NULL!"}, {"MATCH", "1", "5,#N/A", "5", "0,x"},
	})
}

func TestVlookup(t *testing.T) {
	const rising, mixed = "1,a;3,b;5,c", "3,c;1,a;2,b"
	checkCalls(t, [][]string{
		{"VLOOKUP", "a", "1", mixed, "2", "FALSE"}, {"VLOOKUP", "1", "1", mixed, "1", "0"}, {"VLOOKUP", "#N/A", "9", mixed, "2", "FALSE"}, {"VLOOKUP", "b", "4", rising, "2"}, {"VLOOKUP", "b", "4", rising, "2", "TRUE"}, {"VLOOKUP", "c", "9", rising, "2", "1"}, {"VLOOKUP", "#N/A", "0", rising, "2"}, {"VLOOKUP", "c", "9", mixed, "2"}, {"VLOOKUP", "#N/A", "4", rising, "2", ""}, {"VLOOKUP", "b", "3", rising, "2.9", "'false"}, {"VLOOKUP", "b", "3,#N/A", rising, "2,x", "FALSE,x"},
		{"VLOOKUP", "#REF!", "1", mixed, "3", "FALSE"}, {"VLOOKUP", "#VALUE!", "1", mixed, "0", "FALSE"}, {"VLOOKUP", "#VALUE!", "1", mixed, "-1", "FALSE"}, {"VLOOKUP", "#REF!", "9", mixed, "3", "FALSE"}, {"VLOOKUP", "#VALUE!", "9", mixed, "0", "FALSE"}, {"VLOOKUP", "#REF!", "1", mixed, "1E15", "FALSE"}, {"VLOOKUP", "#NUM!", "1", mixed, "1E30", "x"}, {"VLOOKUP", "#VALUE!", "1", mixed, "x", "#N/A"}, {"VLOOKUP", "#VALUE!", "1", mixed, "9", "x"}, {"VLOOKUP", "#N/A", "1", mixed, "9", "#N/A"}, {"VLOOKUP", "#NULL!", "#NULL!", mixed, "x", "#N/A"},
		// Cells are given as they are; errors in the first column are passed over.
		{"VLOOKUP", "#DIV/0!", "1", "1,#DIV/0!", "2"}, {"VLOOKUP", "", "1", "1,", "2"}, {"VLOOKUP", "b", "2", "#N/A,a;2,b", "2"}, {"VLOOKUP", "b", "2", "#N/A,a;2,b", "2", "FALSE"}, {"VLOOKUP", "z", "B", "a,y;b,z;c,", "2"}, {"VLOOKUP", "5", "5", "5", "1"}, {"VLOOKUP", "7", "2", "1,2,3,4;2,5,6,7", "4"},
	})
}

func TestChoose(t *testing.T) {
	checkCalls(t, [][]string{
		{"CHOOSE", "y", "2", "x", "y"}, {"CHOOSE", "x", "1", "x", "y"}, {"CHOOSE", "1,2;3,4", "2.9", "x", "1,2;3,4"}, {"CHOOSE", "x", "TRUE", "x"}, {"CHOOSE", "x", "'1,#N/A", "x"}, {"CHOOSE", "", "1", ""}, {"CHOOSE", "#N/A,1", "1", "#N/A,1", "#REF!"}, {"CHOOSE", "1", "1", "1", "#REF!"},
		{"CHOOSE", "#VALUE!", "0", "x", "y"}, {"CHOOSE", "#VALUE!", "3", "x", "y"}, {"CHOOSE", "#VALUE!", "-1", "x", "y"}, {"CHOOSE", "#VALUE!", "", "x"}, {"CHOOSE", "#VALUE!", "1E15", "x"}, {"CHOOSE", "#NUM!", "1E30", "x"}, {"CHOOSE", "#VALUE!", "x", "#N/A"}, {"CHOOSE", "#N/A", "#N/A", "#REF!"},
		{"ROWS", "3", "1;2;3"}, {"ROWS", "1", "1,2"}, {"COLUMNS", "1", "1;2;3"}, {"COLUMNS", "2", "#N/A,2"}, {"ROWS", "2", "#N/A,;x,"},
	})
	args := []impl.Grid{gridOf("29")}
	for i := range 29 {
		args = append(args, fullGrid(1, 1+i, numVal("7")))
	}
	wantGrid(t, "CHOOSE", "the last one of 29", impl.CallFunction("CHOOSE", args), fullGrid(1, 29, numVal("7")))
	great := fullGrid(1000, 2, wordsVal(letters(1000)))
	wantGrid(t, "CHOOSE", "2000 cells", impl.CallFunction("CHOOSE", []impl.Grid{gridOf("1"), great}), great)
	wantSingle(t, "ROWS", "1000 rows", impl.CallFunction("ROWS", []impl.Grid{great}), numVal("1000"))
}

func TestMadeGrids(t *testing.T) {
	checkCalls(t, [][]string{
		{"TRANSPOSE", "3,1,2;c,a,b", "3,c;1,a;2,b"}, {"TRANSPOSE", "1", "1"}, {"TRANSPOSE", "1;;#N/A", "1,,#N/A"}, {"TRANSPOSE", "1,2", "1;2"},
		{"MMULT", "11", "1,2", "3;4"}, {"MMULT", "3,4;6,8", "1;2", "3,4"}, {"MMULT", "19,22;43,50", "1,2;3,4", "5,6;7,8"}, {"MMULT", "6", "2", "3"}, {"MMULT", "5,11,17", "1,2", "1,3,5;2,4,6"},
		{"MMULT", "#VALUE!", "1,2", "3,4"}, {"MMULT", "#VALUE!", "1;2", "3;4"}, {"MMULT", "#VALUE!", "1,x", "3;4"}, {"MMULT", "#VALUE!", "1,2", "3;"}, {"MMULT", "#VALUE!", "1,'2", "3;4"}, {"MMULT", "#VALUE!", "TRUE,2", "3;4"}, {"MMULT", "#VALUE!", "1,#N/A", "3;4"}, {"MMULT", "#VALUE!", "1,2", "3;#N/A"}, {"MMULT", "#VALUE!", "x", "#N/A"},
		{"MMULT", "#NUM!,0;0,1", "1E200,0;0,1", "1E200,0;0,1"},
		{"MMULT", "1E15", "1,1,1", "1E15;4;4"}, {"MMULT", "1000000000000010", "1,1,1", "4;4;1E15"},
		{"SEQUENCE", "1;2;3", "3"}, {"SEQUENCE", "5,7;9,11", "2", "2", "5", "2"}, {"SEQUENCE", "1,2,3", "1", "3"}, {"SEQUENCE", "0,1", "1", "2", "0"}, {"SEQUENCE", "0,1", "1", "2", ""}, {"SEQUENCE", "1,0.5,0", "1", "3", "1", "-0.5"}, {"SEQUENCE", "5,5", "1", "2", "5", ""}, {"SEQUENCE", "1", "1"}, {"SEQUENCE", "1;2", "'2.9", "TRUE"}, {"SEQUENCE", "1,2;3,4", "2,x", "2,x", "1,x", "1,x"}, {"SEQUENCE", "0.1,0.4,0.7", "1", "3", "0.1", "0.3"}, {"SEQUENCE", "2,5", "1", "2", "'2", "'3"},
		{"SEQUENCE", "0,999999999999999E300,#NUM!", "1", "3", "0", top}, {"SEQUENCE", top + ",#NUM!", "1", "2", top, top},
		{"SEQUENCE", "#VALUE!", "0"}, {"SEQUENCE", "#VALUE!", "-1"}, {"SEQUENCE", "#VALUE!", "1", "0"}, {"SEQUENCE", "#VALUE!", "0.9"}, {"SEQUENCE", "#VALUE!", ""}, {"SEQUENCE", "#VALUE!", "1", ""}, {"SEQUENCE", "#VALUE!", "2001"}, {"SEQUENCE", "#VALUE!", "1", "2001"}, {"SEQUENCE", "#VALUE!", "45", "45"}, {"SEQUENCE", "#VALUE!", "1E15", "1E15"}, {"SEQUENCE", "#VALUE!", "4E18", "4"}, {"SEQUENCE", "#NUM!", "1E30"}, {"SEQUENCE", "#NUM!", "0", "1E30"},
		{"SEQUENCE", "#VALUE!", "x", "#N/A"}, {"SEQUENCE", "#N/A", "0", "#N/A", "x"}, {"SEQUENCE", "#VALUE!", "0", "1", "x", "#N/A"}, {"SEQUENCE", "#N/A", "0", "1", "1", "#N/A"}, {"SEQUENCE", "#N/A", "9999", "1", "1", "#N/A"},
		{"HSTACK", "1,a;2,#N/A", "1;2", "a"}, {"HSTACK", "1,2,3", "1", "2", "3"}, {"HSTACK", "1,2,5;3,4,#N/A", "1,2;3,4", "5"}, {"HSTACK", "5,1,2;#N/A,3,4", "5", "1,2;3,4"}, {"HSTACK", "#REF!,", "#REF!", ""}, {"HSTACK", "1,2", "1,2"},
		{"VSTACK", "1,2;a,#N/A", "1,2", "a"}, {"VSTACK", "1;2;3", "1", "2", "3"}, {"VSTACK", "a,#N/A;1,2;3,4", "a", "1,2;3,4"}, {"VSTACK", "#REF!;", "#REF!", ""}, {"VSTACK", "1;2", "1;2"},
	})
}

func TestStacksAtTheLimit(t *testing.T) {
	one := numVal("1")
	row, column := fullGrid(1, 1000, one), fullGrid(1000, 1, one)
	wantGrid(t, "HSTACK", "2000 cells", impl.CallFunction("HSTACK", []impl.Grid{row, row}), fullGrid(1, 2000, one))
	wantGrid(t, "VSTACK", "2000 cells", impl.CallFunction("VSTACK", []impl.Grid{column, column}), fullGrid(2000, 1, one))
	wantGrid(t, "VSTACK", "two rows", impl.CallFunction("VSTACK", []impl.Grid{row, row}), fullGrid(2, 1000, one))
	for _, c := range []struct {
		name string
		args []impl.Grid
	}{
		{"HSTACK", []impl.Grid{row, row, gridOf("1")}}, {"HSTACK", []impl.Grid{row, gridOf("1;2")}}, {"HSTACK", slices.Repeat([]impl.Grid{fullGrid(2000, 1, one)}, 30)}, {"HSTACK", []impl.Grid{fullGrid(2000, 1, one), gridOf("1")}},
		{"VSTACK", []impl.Grid{column, column, gridOf("1")}}, {"VSTACK", []impl.Grid{column, gridOf("1,2")}}, {"VSTACK", slices.Repeat([]impl.Grid{fullGrid(1, 2000, one)}, 30)}, {"VSTACK", []impl.Grid{fullGrid(1, 2000, one), gridOf("1")}},
		{"MMULT", []impl.Grid{fullGrid(2000, 1, one), fullGrid(1, 2, one)}}, {"MMULT", []impl.Grid{fullGrid(2000, 1, one), fullGrid(1, 2000, one)}}, {"MMULT", []impl.Grid{fullGrid(667, 1, one), fullGrid(1, 3, one)}},
	} {
		wantSingle(t, c.name, len(c.args), impl.CallFunction(c.name, c.args), notThis)
	}
	wantGrid(t, "MMULT", "2000 cells", impl.CallFunction("MMULT", []impl.Grid{fullGrid(40, 1, one), fullGrid(1, 50, one)}), fullGrid(40, 50, one))
	wantSingle(t, "MMULT", "a long sum", impl.CallFunction("MMULT", []impl.Grid{fullGrid(1, 2000, one), fullGrid(2000, 1, one)}), numVal("2000"))
	wantGrid(t, "SEQUENCE", "2000 cells", impl.CallFunction("SEQUENCE", []impl.Grid{gridOf("40"), gridOf("50"), gridOf("1"), gridOf("0")}), fullGrid(40, 50, one))
	wantGrid(t, "TRANSPOSE", "2000 cells", impl.CallFunction("TRANSPOSE", []impl.Grid{fullGrid(2000, 1, one)}), fullGrid(1, 2000, one))
}

func TestChosenRows(t *testing.T) {
	const three = "3,c;1,a;2,b"
	checkCalls(t, [][]string{
		{"SORT", "1,a;2,b;3,c", three}, {"SORT", "3,c;2,b;1,a", three, "2", "-1"}, {"SORT", "1,a;2,b;3,c", three, "2.9", "1.9"}, {"SORT", "3,c;2,b;1,a", three, "1", "-1.9"}, {"SORT", "1;a;FALSE;;#N/A", ";#N/A;FALSE;a;1"}, {"SORT", "TRUE;FALSE;b;a;2;-1;;#N/A", "a;;TRUE;-1;#N/A;2;b;FALSE", "1", "-1"}, {"SORT", "-1;2;';a;b;FALSE;TRUE;;#N/A", "a;;TRUE;-1;#N/A;2;b;FALSE;'"},
		// Rows that are equal stay as they stand, in both orders; so do empty cells and errors.
		{"SORT", "a,1;A,2;a,3;b,0", "b,0;a,1;A,2;a,3"}, {"SORT", "b,0;a,1;A,2;a,3", "a,1;A,2;b,0;a,3", "1", "-1"}, {"SORT", "1,x;,1;,2;,0;#REF!,1;#N/A,2;#REF!,0", "#REF!,1;,1;#N/A,2;,2;1,x;#REF!,0;,0"}, {"SORT", "1,x;,1;,2;,0;#REF!,1;#N/A,2;#REF!,0", "#REF!,1;,1;#N/A,2;,2;1,x;#REF!,0;,0", "1", "-1"}, {"SORT", "3,1,2", "3,1,2"}, {"SORT", "5", "5"},
		{"SORT", "#VALUE!", three, "0"}, {"SORT", "#VALUE!", three, "3"}, {"SORT", "#VALUE!", three, "-1"}, {"SORT", "#VALUE!", three, "1", "0"}, {"SORT", "#VALUE!", three, "1", "2"}, {"SORT", "#VALUE!", three, "1", ""}, {"SORT", "#VALUE!", three, "1", "-2"}, {"SORT", "#VALUE!", three, "", "1"}, {"SORT", "#NUM!", three, "1E30"}, {"SORT", "#NUM!", three, "0", "1E30"}, {"SORT", "#VALUE!", three, "x", "#N/A"}, {"SORT", "#N/A", three, "0", "#N/A"}, {"SORT", "1,a;2,b;3,c", three, "'1", "TRUE"}, {"SORT", "1,a;2,b;3,c", three, "1,#N/A", "1,x"},
		{"UNIQUE", "a;1", "a;1;A;1"}, {"UNIQUE", "a,1;a,2;b,1", "a,1;A,1;a,2;b,1;b,1"}, {"UNIQUE", "1;'1;TRUE;'true", "1;'1;TRUE;'true;1;'TRUE;TRUE"}, {"UNIQUE", ";';0;FALSE", ";';0;FALSE;;'"}, {"UNIQUE", "#N/A;#REF!;'#N/A", "#N/A;#REF!;#N/A;'#N/A;#REF!"}, {"UNIQUE", "1,1,1", "1,1,1"}, {"UNIQUE", "5", "5"}, {"UNIQUE", "1,11;11,1", "1,11;11,1;1,11"}, {"UNIQUE", "ab,c;a,bc", "ab,c;a,bc"}, {"UNIQUE", ",a;a,", ",a;a,;,a"}, {"UNIQUE", "1", "1.0;1E0"},
		{"FILTER", "3,c;2,b", three, "TRUE;0;1"}, {"FILTER", "3,c;1,a;2,b", three, "1;1;1"}, {"FILTER", "1,a", three, ";'true;'False"}, {"FILTER", "#N/A,", "#N/A,", "TRUE"}, {"FILTER", "5", "5", "1"},
		{"FILTER", "none", three, "0;0;0", "none"}, {"FILTER", "#N/A", three, "0;0;"}, {"FILTER", "1,2;#REF!,", three, "0;0;0", "1,2;#REF!,"}, {"FILTER", "", three, "0;0;0", ""}, {"FILTER", "3,c", three, "1;0;0", "#REF!"},
		{"FILTER", "#VALUE!", three, "1;1"}, {"FILTER", "#VALUE!", three, "1,1,1"}, {"FILTER", "#VALUE!", three, "1;1;1;1"}, {"FILTER", "#VALUE!", three, "1,1;1,1;1,1"}, {"FILTER", "#VALUE!", three, "1;#N/A"}, {"FILTER", "#VALUE!", three, "1", "x"}, {"FILTER", "#N/A", three, "1;#N/A;#REF!"}, {"FILTER", "#VALUE!", three, "1;x;#REF!"}, {"FILTER", "#REF!", three, "1;#REF!;x"}, {"FILTER", "#N/A", three, "0;0;#N/A", "none"}, {"FILTER", "#VALUE!", "1", "'1"}, {"FILTER", "#VALUE!", "1,2", "1,1"},
	})
}

func TestTakeAndDrop(t *testing.T) {
	const three = "3,c;1,a;2,b"
	checkCalls(t, [][]string{
		{"TAKE", "3,c", three, "1"}, {"TAKE", "3,c;1,a", three, "2"}, {"TAKE", three, three, "3"}, {"TAKE", three, three, "4"}, {"TAKE", three, three, "1E15"}, {"TAKE", "2,b", three, "-1"}, {"TAKE", "1,a;2,b", three, "-2"}, {"TAKE", three, three, "-3"}, {"TAKE", three, three, "-9"}, {"TAKE", three, three, "-9E18"}, {"TAKE", "#VALUE!", three, "0"}, {"TAKE", "#VALUE!", three, "0.9"}, {"TAKE", "#VALUE!", three, "-0.9"}, {"TAKE", "#VALUE!", three, ""}, {"TAKE", "3,c", three, "1.9"}, {"TAKE", "2,b", three, "-1.9"}, {"TAKE", "#NUM!", three, "1E30"}, {"TAKE", "#VALUE!", three, "x"}, {"TAKE", "3,c", three, "TRUE"}, {"TAKE", "#N/A,", "#N/A,;1,2", "1"}, {"TAKE", "3,c", three, "1,x"},
		{"DROP", "1,a;2,b", three, "1"}, {"DROP", "2,b", three, "2"}, {"DROP", "#VALUE!", three, "3"}, {"DROP", "#VALUE!", three, "4"}, {"DROP", "#VALUE!", three, "9E18"}, {"DROP", "3,c;1,a", three, "-1"}, {"DROP", "3,c", three, "-2"}, {"DROP", "#VALUE!", three, "-3"}, {"DROP", "#VALUE!", three, "-4"}, {"DROP", "#VALUE!", three, "-9E18"}, {"DROP", three, three, "0"}, {"DROP", three, three, "-0.9"}, {"DROP", three, three, ""}, {"DROP", "#NUM!", three, "-1E30"}, {"DROP", "#VALUE!", three, "x"}, {"DROP", "1,2", "#N/A,;1,2", "'1"}, {"DROP", "#N/A", three, "#N/A"},
	})
}
