"""Any step taken back, whole: a sheet of cells that many work on, step by step."""
