"""Two workbooks' sheets held against one another: sheetsheld.desk.answers(calls)."""
