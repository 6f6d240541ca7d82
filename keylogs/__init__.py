"""Tables of keys and values, and logs, in the files of LevelDB; keylogs.desk has the calls."""
